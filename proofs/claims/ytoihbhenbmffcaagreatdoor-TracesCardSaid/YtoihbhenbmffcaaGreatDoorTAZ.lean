import Derived.Test.YtoihbhenbmffcaaGreatDoorTAY
import Derived.Test.YtoihbhenbmffcaaGreatDoorTAV
import Derived.Test.YtoihbhenbmffcaaGreatDoorTAW
set_option linter.all false
set_option maxHeartbeats 0
open List renaming length->Z
open Option renaming none->Y,some->V
open Go.Value renaming slice->U,int->X,string->O,pointer->j3,ownBlock->qX
open Go.Ending renaming returned->kt
open Go renaming World->ly,Value->ml
open Go.World renaming cell?->oa,ownsRow->oi
namespace Go.Proofs.YtoihbhenbmffcaaGreatDoor
open Go.RowKit Go.Proofs.Tryz
variable{p:rc CU}{c:rc AV}{n m i j k b:Nat}{w v u:ly}{z:ml}{o:Option Addr}{M:rc Nat}{y x:rc ml}
structure Im(pcs:rc CU)(rcs:rc AV):Prop where
 zl:F2 Qy pcs rcs
 pass:Cn rcs
 zM:∀c∈pcs,Lw c.pc
 names:∀c∈pcs,c.hn.size<=1000000/\∀p∈c.zD,p.1.an.size<=1000000
def Im.len(h:Im p c):Z p<=1000:=by rw[h.zl.lenX];exact h.pass.order.small.1
def Im.fit{a:rc AV}(h:Im p a){c:CU}(b:c∈p):lF c:=(Sk (h.zM c b)).1
def Im.litW{i:rc CU}{n:rc AV}(h:Im i n){c:CU}{r:AV}(y:c∈i)(k:r∈n)(v:Qy c r):∀x∈An r,QJ (MA x):=by
 intro x o;obtain⟨q,g,rfl⟩:=mD.1 o;obtain⟨p,s,j⟩:=v.lits.mem q g;have b:=h.pass.lits r k q.1 o;have f:=(h.pass.order.small.2 r k).2.2 q g;have z:Z q.1.A.args<=2:=by
  unfold BM at f;have:=qH f;omega
 have e:=(h.zM c y).lits p.1 (by simp only[CU.pc];exact mR s);rw[j.eq]at e;unfold Dz at b;by_cases d:(q.1.kind==97||q.1.kind==33)=true
 .rw[mK d]at b;have m:=e.bare (by rw[I4];exact d);refine⟨by show Z (q.1.A.args.map ct)<=1000;rw[mI];omega,λt a=>?_,by rw[m.1];exact Or.inl rfl,by rw[m.2];exact Or.inl rfl⟩;obtain⟨u,w,rfl⟩:=mD.1 a;exact Lc (b.args u w)
 .rw[mJ d]at b;have l:=j.plain (by unfold MP;simpa using d);refine⟨by show Z (q.1.A.args.map ct)<=1000;rw[l];simp,λt a=>?_,Lc b.1,Lc b.2.1⟩;have a:t∈q.1.A.args.map ct:=a;rw[l]at a;simp at a
def Im.zd(h:Im p c){L:zA->Nat}{s:rc Af}(a:Hm c L n s):Dy s/\(∀f∈s,AL f)/\Z s<=6912:=by
 have d:=h.pass.order.few s (a.zG.nodup λf b=>(a.zX f b).canon h.pass.prog.zN) a.zX;exact⟨a.zG,λf b=>(a.zX f b).canon h.pass.prog.zN,by omega⟩
def Im.cl(h:Im p c){L:zA->Nat}{s:rc Af}(k:Hm c L n s)(i:m<Z p)(g:m<Z c):Rq p[m] c[m] s:=by
 have j:=h.zl.at m i g;have e:p[m]∈p:=mw i;have a:c[m]∈c:=mw g;have o:=h.zd k;refine⟨j,(h.fit e).pc,(h.fit e).zR,λx b=>⟨h.pass.lits _ a x b,h.litW e a j x b⟩,Yd h.pass.prog.zM a (h.pass.lits _ a),h.pass.zN _ a,λf r x b q v=>?_,o.2.1,by omega⟩;obtain⟨d,l,t,u⟩:=(k.zX f r).zd;rw[u];exact h.pass.order.ar3 d l _ a x b q (by rw[<-t];exact v)
def Im.steps(h:Im p c){L:zA->Nat}(w:CG c L){s:rc Af}(g:Hm c L n s){l:rc (Nat×G1 Af)}(M:ZT c l s)(u:m<Z p)(o:m<Z c)(B:L c[m].head.name=n):aQ p (λl s=>Hm c L n s/\ZT c l s) m c[m] l s:=by
 have d:=h.cl g u o;have z:c[m]∈c:=mw o;have y:∀v e,∀t∈JN (An c[m]) s v e,t.size≠0:=λv e t q=>(d.al v e t q).size
 have k:∀f∈I9 c[m] s,f∉s/\∃σ,(∀x∈An c[m],Cp (Bo σ) (Eu σ) s x=true)/\f=Bo σ c[m].head:=λf a=>UT d.parts y a
 have C:∀j,Hm c L n (((I9 c[m] s).take j).foldl A9 s):=λj=>(Ml (h.pass.other w) g z B ((I9 c[m] s).take j) s (λf a=>(k f (ow a)).2) g (λf a=>a) (λf a=>Or.inl a)).1
 have i:∀f∈I9 c[m] s,AL f/\Z f.args<=1000:=by
  intro f a;unfold I9 S4 at a;obtain⟨b,D,rfl⟩:=mD.1 a;have N:=Nk d.al d.parts d.head (mT.1 D).1;refine⟨G0 N,?_⟩;have:=(h.pass.order.small.2 _ z).2.1;unfold Av;simp only[mI];omega
 have A:=EL c[m].head.args [] ph;have r:(I9 c[m] s).Nodup:=bX (λv e=>Ue d.canon d.fitA v e) y d.parts A.2.1 (λv I=>by
  rcases(A.2.2 v).1 I with h|⟨_,t,q,e⟩
  .simp at h
  .exact⟨t,q,e⟩)
 refine⟨u,d,r,λf a=>⟨(k f a).1,(i f a).1,(i f a).2⟩,?_,λP G E j=>⟨C j,M.batch w g.zG d.canon (λf a=>g.work.top f a) o B r (λf a=>⟨(k f a).1,(i f a).1⟩) G E j⟩⟩;have H:=XX (I9 c[m] s) s g.zG d.canon r (λf a=>⟨(k f a).1,(i f a).1⟩);have F:=(h.zd (C (Z (I9 c[m] s)))).2.2;rw[nR,H]at F;omega
def Kx(rcs:rc AV)(ns:rc Nat):rc AV:=ns.filterMap λi=>rcs[i]?
def XP{b:rc AV}{R:Nat->AV->Prop}:∀(a:rc Nat),(∀i∈a,∃h:i<Z b,R i b[i])->F2 R a (Kx b a)
 |[],_=>F2.nil
 |i::a,h=>by
  obtain⟨f,d⟩:=h i (by simp);have ih:=XP a (λj c=>h j (by simp[c]));have e:Kx b (i::a)=b[i]::Kx b a:=by
   unfold Kx;rw[qy,mG f]
  rw[e];exact F2.cons d ih
def Ku(h:F2 Qy p c)(a:i<Z c):Hv p i=c[i].head.name:=by
 have b:i<Z p:=by rw[h.lenX];exact a
 have:=(h.at i b a).hn;unfold Hv;rw[mG b];exact this
def cC{b:rc AV}(h:F2 Qy p b){L:zA->Nat}(c:AV):c∈Kx b ((List.range (Z p)).filter λi=>L (Hv p i)==n)↔c∈b/\L c.head.name=n:=by
 unfold Kx;rw[oG];constructor
 .rintro ⟨i,a,e⟩;obtain⟨a,f⟩:=mT.1 a;obtain⟨d,rfl⟩:=p8.1 e;rw[Ku h d]at f;exact⟨mw d,by simpa using f⟩
 .rintro ⟨g,j⟩;obtain⟨i,a,rfl⟩:=nw g;refine⟨i,mT.2 ⟨qr.2 (by rw[h.lenX];exact a),?_⟩,mG a⟩;rw[Ku h a];simpa using j
def GR.parts(h:GR w v){b:rc QL}(a:EE w n z b):EE v n z b:=⟨h.row a.row (by decide) (by decide) (by decide),λp c=>h.row (a.each p c) (by decide) (by decide) (by decide),a.apart⟩
def lh(lad:Option Addr)(lcp:Nat)(pcs:rc CU)(rcs:rc AV)(w:ly)(r:Ending)(w':ly):Prop:=∃(cb:Nat) (s:rc Af) (hs:rc (Nat×G1 Af)) (L:zA->Nat) (N:Nat),r=kt (j3 (V ⟨cb,0,Y⟩))/\Nv w cb (U lad (Z pcs) lcp) [] [] s hs w'/\ZT rcs hs s/\CG rcs L/\Hm rcs L N s/\∀c∈rcs,L c.head.name<N
set_option maxRecDepth 100000
theorem MW(m:Option Addr)(j:Nat)(b:rc CU)(a:rc AV)(w:ly)(hP:CE w (U m (Z b) j) b)(A:Im b a):
  Calls prog 74 #[U m (Z b) j] w λr G=>lh m j b a w r G:=by
 have HM:=A.len;have B2:∀x,B3 a 6 x<=6:=SO a 6;have FL:EW a (B3 a 6)<=100000:=by
  have P:∀(l:rc AV),EW l (B3 a 6)<=Z l*6:=λl=>by
   induction l with
   |nil=>simp[EW]
   |cons c l ih=>
    (have e:EW (c::l) (B3 a 6)=B3 a 6 c.head.name+EW l (B3 a 6):=by unfold EW;simp);have:=B2 c.head.name;rw[e,mL,oZ];omega
  have h2:=P a;have h3:=A.pass.order.small.1;omega
 have FB:Hid (∀t,Ac [] w t->Calls prog 123 #[U m (Z b) j] t λr G=>bq b a (B3 a 6) t r G):=λt hk=>Zu m j b a t (B3 a 6) (hP.kept hk) A.zl (by omega) (λc hc=>(A.fit hc).pc.lits) A.names A.pass.prog.lay (λx=>by have:=B2 x;omega) FL
 have HL:=Ab hP;have z:=Ab A;have E0:=Ab HM;have I:Hid (Nv w w.heap.size (U m (Z b) j) [] [] [] [] (w.alloc (.cells [U m (Z b) j,U Y 0 0,U Y 0 0].toArray 139))):=⟨(re [] w).alloc _,mP _,Y,0,[],Y,0,[],rf w _ 139,⟨mS _ _ _ _,λp R=>by simp at R⟩,⟨rfl,List.Pairwise.nil,λf hf=>by simp at hf⟩,mS _ _ _ _,λq hq=>by simp[qX]at hq,λq hq=>by simp,rfl,λp R=>by simp at R⟩;obtain⟨y,Ha⟩:=rd w.heap.size;clear hP A B2 FL;go_enter func74,ntmps74;go_wp2_with fail
 have AT:=Ab I.kept;change Calls _ _ _ (w.alloc (.cells [U m (Z b) j,U Y 0 0,U Y 0 0].toArray 139)) _;generalize w.alloc (.cells [U m (Z b) j,U Y 0 0,U Y 0 0].toArray 139)=w1 at I AT⊢;rw[Ha]at I;clear Ha;refine(FB w1 AT).mono ?_;rintro _ w2 ⟨ad,cp,v,L,rfl,T,BA,EM,HU,k2⟩;have FF:=Ab (I.grow k2);have FT:=Ab (EE.mk (Ak T.row (mO _)) (λp R=>Ak (T.each p R) (mO _)) T.apart);have FA:=Ab BA;have AO:=Ab EM;have Ix:=BA.len;clear I AT FB T BA EM HU k2;go_wp2_with fail
 go_loopg [12] (Z v) (λgk i wr=>∃(k:Nat) (s:rc Af) (d:rc (Nat×G1 Af)),i=X .i64 k/\k<=Z v/\gk=Z v-k/\Hid (Hm a L k s/\ZT a d s)/\Hid (Nv w y (U m (Z b) j) [] [] s d wr)/\Hid (GR w2 wr))
 case atStart=>exact⟨0,[],[],rfl,by omega,rfl,⟨Hm.start _ _,ZT.start _⟩,FF,GR.refl _⟩
 case round=>
  clear FF;obtain⟨k,s,d,rfl,hk,HD,C,Q,H⟩:=hrel;have HG:=Ab HD;clear HD;by_cases A2:k<Z v
  .obtain⟨g,Jx,CW,HK,M,hv,FC⟩:=T6 (H.parts FT) k A2;simp only[mu]at M;obtain⟨rfl,-,rfl⟩:=M;have Ax:=FT.each _ (mw A2);rw[hv]at Ax;have AB:=FA.lists k A2;obtain⟨o,EX⟩:=rd (v[k].1);rw[EX]at Ax AB FC;have H1:=Ab Ax;have HA:=Ab AB;have HJ:Z o<=1000:=by
    rw[AB];have:=oo (λi=>L (Hv b i)==k) (List.range (Z b));rw[List.length_range]at this;have:=Aa E0;omega
   have HT:=Ab HJ;obtain⟨NL,A0⟩:=rd (Z o);have HZ:=Ab A0;rw[A0]at FC;(have IJ:(0:Int)<=(k:Int):=by omega);(have H8:(k:Int)<(Z v:Int):=by omega);have HP:Hid (∀s d t,Hm a L k s/\ZT a d s->Nv w y (U m (Z b) j) [] [] s d t->GR w2 t->Calls prog 124 #[j3 (V ⟨y,0,Y⟩),U CW NL HK] t λr G=>∃u F,u=(Gw (Fg kN) (Kx a o) s).1/\r=kt (.bool (decide (Z s<Z u)))/\(Hm a L k u/\ZT a F u)/\Nv w y (U m (Z b) j) [] [] u F G/\GR t G):=by
    intro s d t B hC hR;rw[<-Aa HZ];refine eQ (λd s=>Hm a L k s/\ZT a d s) w y m j b CW HK o (Kx a o) s d t HL (by have:=Aa E0;omega) HT (hR.row H1 (by decide) (by decide) (by decide)) hC B (λd s B=>by have h:=z.zd B.1;exact⟨h.1,h.2.1,by omega⟩) (λd s B=>XP o (λi D=>?_));rw[Aa HA]at D;obtain⟨D,S⟩:=mT.1 D;have CC:=qr.1 D;(have B0:i<Z a:=by rw[<-(Aa z).zl.lenX];exact CC);refine⟨B0,z.steps AO B.1 B.2 CC B0 ?_⟩;rw[<-Ku (Aa z).zl B0];simpa using S
   have HO:Hid (∀s,Hm a L k s->((Gw (Fg kN) (Kx a o) s).2=false->(Gw (Fg kN) (Kx a o) s).1=s/\Hm a L (k+1) s)/\((Gw (Fg kN) (Kx a o) s).2=true->Z s<Z (Gw (Fg kN) (Kx a o) s).1)):=by
    intro s B;have h:=z.pass.grow (al:=kN) (λc _ s=>FG (An c) s) AO (n:=k) (ds:=Kx a o) (λc=>by rw[Aa HA];exact cC z.zl c) B;exact⟨h.2.1,h.2.2.1⟩
   clear Ax AB HJ hv EX A0;go_wp2_with fail
   go_loopg [] (7000-Z s) (λH5 wq=>∃(s:rc Af) (d:rc (Nat×G1 Af)),H5=7000-Z s/\Hid (Hm a L k s/\ZT a d s)/\Hid (Nv w y (U m (Z b) j) [] [] s d wq)/\Hid (GR w2 wq))
   case atStart=>exact⟨s,d,rfl,C,Q,H⟩
   case round=>
    clear C Q H;obtain⟨s,d,HF,C,Q,H⟩:=hrel;have HY:=Ab HF;clear HF;have HH:=Ab (HP s d wr C Q H);(go_wp2_with fail);refine HH.mono ?_;rintro _ w5 ⟨u,W,F,rfl,FP,Go,CL⟩;have H9:=Ab F;have AR:=Ab FP;have DT:=Ab Go;have EK:=Ab (H.trans CL);have BS:=Aa HO s C.1;rw[<-F]at BS;have HQ:=Ab BS;clear HH F FP Go CL BS;by_cases E:Z s<Z u
    .have N:decide (Z s<Z u)=true:=oS E;rw[N];have H0:=Ab E;clear N E;go_wp2_with fail
     go_roundg (7000-Z u)
     case measure=>
      have P:=(z.zd AR.1).2.2;have h2:=Aa H0;have h3:=Aa HY;omega
     case rel=>exact⟨u,W,rfl,AR,DT,EK⟩
    .have N:decide (Z s<Z u)=false:=nW E;rw[N];have HE:Hid (u=s/\Hm a L (k+1) s):=by
      have h:=Aa HQ;cases S:(Gw (Fg kN) (Kx a o) s).2 with
      |true=>exact absurd (h.2 S) E
      |false=>exact h.1 S
     have H4:Hid (Nv w y (U m (Z b) j) [] [] s W w5):=by
      have h:=Aa DT;rw[(Aa HE).1]at h;exact h
     have H2:Hid (ZT a W s):=by
      have h:=AR.2;rw[(Aa HE).1]at h;exact h
     clear N E;go_wp2_with fail
     go_roundg (Z v-(k+1))
     case measure=>have:=Aa HG;omega
     case rel=>exact⟨k+1,s,W,by go_num,by omega,rfl,⟨HE.2,H2⟩,H4,EK⟩
  ·(have M:k=Z v:=by omega);(have HV:Hid (Hm a L (Z v) s):=by have h:=C.1;rw[M]at h;exact h);clear M;go_wp2;go_ret;refine⟨y,s,d,L,Z v,rfl,Q,C.2,AO,HV,λc hc=>?_⟩;obtain⟨i,D,rfl⟩:=nw hc;have P:=FA.top i (by rw[(Aa z).zl.lenX];exact D);rw[Ku (Aa z).zl D]at P;exact P
def jV(lad:Option Addr)(lcp:Nat)(pcs:rc CU)(rcs:rc AV)(w:ly)(r:Ending)(w':ly):Prop:=∃(cb:Nat) (s:rc Af) (L:zA->Nat) (N:Nat),r=kt (j3 (V ⟨cb,1,Y⟩))/\Tn w cb (U lad (Z pcs) lcp) [] s w'/\CG rcs L/\Hm rcs L N s/\∀c∈rcs,L c.head.name<N
theorem LX(c:Option Addr)(b:Nat)(a:rc CU)(d:rc AV)(w:ly)(g:CE w (U c (Z a) b) a)(k:Im a d):
  Calls prog 41 #[U c (Z a) b] w λr m=>jV c b a d w r m:=by
 have f:=Ab (MW c b a d w g k);clear g k;go_enter func41,ntmps41;go_wp2_with fail
 refine f.mono ?_;rintro _ n ⟨e,s,p,L,N,rfl,j,_,h,l,i⟩;have o:Hid (jV c b a d w (kt (j3 (V ⟨e,1,Y⟩))) n):=⟨e,s,L,N,rfl,j.cou,h,l,i⟩;clear f j h l i;go_wp2;go_ret;exact o
def aR(sts:rc (Nat×Vy))(i:Nat):rc ml:=(sts[i]?).elim [] Cl
def i9(sts:rc (Nat×Vy))(i:Nat):Array ml:=#[X .i64 i,.agg (aR sts i).toArray]
structure M4(b1:Nat)(sad:Option Addr)(scp:Nat)(sts:rc (Nat×Vy))(M:rc Nat)(w:ly):Prop where
 at_:oa w ⟨b1,0,Y⟩=V (U sad (Z sts) scp)
 row:oi w 0 176 4 (U sad (Z sts) scp) (Z sts) (sts.flatMap Cl)
 apart:∀k∈M,k≠b1/\(U sad (Z sts) scp).ownBlock≠V k/\k<w.heap.size
def M4.grow{b:rc (Nat×Vy)}(h:M4 n o m b M w)(k:Ac [] w v):M4 n o m b M v:=
 ⟨k.cellAt h.at_,Ad h.row k,λi a=>⟨(h.apart i a).1,(h.apart i a).2.1,oz (h.apart i a).2.2 k.size⟩⟩
def M4.round{f:rc (Nat×Vy)}{M g:rc Nat}(h:M4 n o m f M w)(k:Ac M w v)(d:∀i∈g,(i∈M\/w.heap.size<=i)/\i<v.heap.size):M4 n o m f g v:=by
 have j:=Ln h.at_;refine⟨Jl k h.at_ (λb=>(h.apart _ b).1 rfl),Ag h.row k (λq c b=>(h.apart q b).2.1 c),λi e=>⟨?_,?_,(d i e).2⟩⟩
 .rcases(d i e).1 with a|a
  .exact(h.apart i a).1
  .omega
 .rcases(d i e).1 with a|a
  .exact(h.apart i a).2.1
  .intro c;have:=(h.row.lt i c).2;omega
def Zm(d:j<n):(List.range n).reverse=(List.range n).reverse.take (n-(j+1))++j::(List.range n).reverse.drop (n-j):=by
 have b:n-(j+1)<Z (List.range n).reverse:=by simp;omega
 have c:(List.range n).reverse[n-(j+1)]=j:=by
  rw[List.getElem_reverse];simp;omega
 have a:=nO (n-(j+1)) (List.range n).reverse;rw[mQ b,c,show n-(j+1)+1=n-j by omega]at a;exact a.symm
def bI(c:j<n):(List.range n).reverse.take (n-(j+1))++[j]=(List.range n).reverse.take (n-j):=by
 have a:n-(j+1)<Z (List.range n).reverse:=by simp;omega
 have b:(List.range n).reverse[n-(j+1)]=j:=by
  rw[List.getElem_reverse];simp;omega
 rw[show n-j=n-(j+1)+1 by omega,mx a,b]
def Kt{a:rc (Nat×Vy)}(h:oi w 0 176 4 (U o (Z a) m) (Z a) (a.flatMap Cl))(j:Nat)(b:j<Z a):
  ∃g,o=V ⟨g,0,Y⟩/\oa w ⟨g,j*4,Y⟩=V (O a[j].2.f.f.name)/\oa w ⟨g,j*4+1,Y⟩=V a[j].2.f.tv/\oa w ⟨g,j*4+2,Y⟩=V (X .i64 a[j].1)/\oa w ⟨g,j*4+3,Y⟩=V a[j].2.n:=by
 obtain⟨g,q,l,_,d⟩:=AC h (λc _=>rfl) j b;simp only[mu]at l;have e:=d j b 0 (by omega);have i:=d j b 1 (by omega);have p:=d j b 2 (by omega);have k:=d j b 3 (by omega);simp[Cl,Ly]at e i p k;exact⟨g,l.1,e,i,p,k⟩
theorem cZ(r:Nat)(Ax:Option Addr)(AH:Nat)(a:rc (Nat×Vy))(w:ly)(x:rc Nat)(hB:M4 r Ax AH a x w)(ES:Z a<=900000):
  Lq prog 182 #[j3 (V ⟨r,0,Y⟩)] (i9 a) (List.range (Z a)).reverse x w:=by
 intro l o Jx W A2 _ _ hJ EX hR AR;have z:=hB.grow A2;have u:=z.at_;have R:=Ab z;have HJ:=Ab hJ;have HR:=Ab hR;have S:Hid (o ((List.range (Z a)).reverse.take (Z a-Z a)) x W):=by show o _ _ _;rw[Nat.sub_self,pN];exact AR
 have CW:Hid ((List.range (Z a)).reverse.take (Z a-0)=(List.range (Z a)).reverse):=by show _=_;rw[mz (by simp)]
 clear hB z hJ hR AR A2;show Calls prog 182 #[.func (.yield l) #[] #[],j3 (V ⟨r,0,Y⟩)] W _;go_enter func182,ntmps182;go_wp2_with fail
 go_loopg [3] (Z a) (λgk i wr=>∃(j:Nat) (M:rc Nat),i=X .i64 ((j:Int)-1)/\j<=Z a/\gk=j/\Hid (M4 r Ax AH a M wr)/\Hid (o ((List.range (Z a)).reverse.take (Z a-j)) M wr)/\Hid (W.heap.size<=wr.heap.size))
 case atStart=>exact⟨Z a,x,by go_num,by omega,rfl,R,S,mP _⟩
 case round=>
  clear R S u;obtain⟨j,M,rfl,hj,T,m,p,C⟩:=hrel;have HG:=Ab T;clear T;by_cases I:0<j
  .obtain⟨k,rfl⟩:∃k,j=k+1:=⟨j-1,by omega⟩;(have L:((k+1:Nat):Int)-1=(k:Int):=by omega);rw[L];(have t:k<Z a:=by omega);obtain⟨g,hg,y,E,A,F⟩:=Kt m.row k t;subst hg;have DG:Hid (i9 a k=#[X .i64 k,.agg #[O a[k].2.f.f.name,a[k].2.f.tv,X .i64 a[k].1,a[k].2.n]]):=by
    show _=_;unfold i9 aR;rw[mG t];rfl
   have b:=Ab (HR _ _ _ M wr (Zm t) p);rw[Aa DG]at b;have D:Hid ((List.range (Z a)).reverse.take (Z a-(k+1))++[k]=(List.range (Z a)).reverse.take (Z a-k)):=bI t;have u:=m.at_;(have EY:(0:Int)<=(k:Int):=by omega);(have B0:(k:Int)<(Z a:Int):=by omega);generalize a[k].2.f.f.name=X0 at y b;generalize a[k].2.f.tv=X1 at E b;generalize a[k].1=X2 at A b;generalize a[k].2.n=X3 at F b;clear DG L I;refine ra (λQ c=>?_);go_wp2;refine c _ _ ?_;clear c Q;refine ra (λK5 AT=>?_);refine wp_block ?_;refine ra (λQ c=>?_);refine GJ (n:=0) 6 (by rintro ⟨_,_,h⟩;obtain⟨⟨v,e⟩,_⟩:=h;cases e) (λK2 AB=>?_);simp only[pk,pN];go_wp2;refine AB _ _ ?_;clear AB K2;simp only[pC,pF];refine IP (λ_=>trivial) rfl rfl (l:=l) (args:=#[X .i64 k,.agg #[O X0,X1,X .i64 X2,X3]]) (by rfl) (by first|(simp[go_sem,Oper.semAt];done)|(simp[go_sem,Oper.semAt,execOp,resolve,invoke];done)) b ?_;rintro e H (⟨rfl,s,d,B,N⟩|⟨rfl,s,d,-⟩)
   .refine⟨_,rfl,Dj (by rintro ⟨_,_,h⟩;obtain⟨⟨v,e⟩,_⟩:=h;cases e) ?_⟩;simp only[Act.put,mq,mr,mt];have CC:=Ab (m.round B N);(have G:Hid (o ((List.range (Z a)).reverse.take (Z a-k)) s H):=by rw[<-Aa D];exact d);have B2:Hid (W.heap.size<=H.heap.size):=nD C B.size;clear d B N y E A F u b m p C D;go_wp2;refine c _ _ ?_;clear c;go_wp2;refine AT _ _ ?_;clear AT;go_wp2
    go_roundg k
    case measure=>have:=Aa HG;omega
    case rel=>exact⟨k,s,by go_num,by omega,rfl,CC,G,B2⟩
   .refine⟨_,rfl,Dj (by rintro ⟨_,_,h⟩;obtain⟨⟨v,e⟩,_⟩:=h;cases e) ?_⟩;simp only[Act.put,mq,mr,mt];have G:=Ab d;clear d y E A F u b m p C D;go_wp2;refine c _ _ ?_;clear c;go_wp2;refine m5 (qe rfl _ _ _) rfl ?_;exact⟨⟨_,rfl⟩,Or.inr ⟨_,s,G⟩⟩
  ·(have B9:j=0:=by omega);subst B9;have CL:Hid (o (List.range (Z a)).reverse M wr):=by
    have h:=Aa p;rw[Aa CW]at h;exact h
   (have B0:¬(0:Int)<=((0:Nat):Int)-1:=by omega);clear p I;go_wp2;go_end0;exact⟨⟨_,rfl⟩,Or.inl ⟨M,CL⟩⟩
theorem Vc(c:Option Addr)(n b:Nat)(w:ly):
  Calls prog 145 #[U c n b] w λr d=>∃a,r=kt (.func (.func 182) #[] #[j3 (V ⟨a,0,Y⟩)])/\AI d a [U c n b] 137/\w.heap.size<=a/\Ac [] w d:=by
 have e:=Ab (rf w [U c n b] 137);go_enter func145,ntmps145;go_wp2;go_ret;exact⟨w.heap.size,rfl,e,mP _,(re [] w).alloc _⟩
def MT{e t:TypeId}{l cs:rc ml}{N:Nat}(h:oi w m e k z n l)(j:AI w N cs t)(f:(e==t)=false):∀i,z.ownBlock=V i->i∉[N]:=by
 intro i b d;rw[my]at d;subst d;rcases h.2 with⟨rfl,_⟩|⟨g,c,o,rfl,_,a,_⟩
 .simp[qX]at b
 .simp only[qX,mB]at b;subst b;unfold AI at j;rw[j]at a;simp only[mB,Obj.cells.injEq]at a;rw[a.2.1]at f;simp at f
def Z4{e t:TypeId}(h:AI w n y e)(c:AI w b x t)(f:(e==t)=false):n∉[b]:=by
 intro d;rw[my]at d;subst d;unfold AI at h c;rw[c]at h;simp only[mB,Obj.cells.injEq]at h;rw[h.2.1]at f;simp at f
def Io.yL{b:rc Eb}(h:Io w z b)(c:AI w n y 145)(k:Ac [n] w v):Io v z b:=
 ⟨Ag h.row k (MT h.row c (by rfl)),λp a=>⟨Ag (h.each p a).1 k (MT (h.each p a).1 c (by rfl)),(h.each p a).2⟩⟩
def Cf.yL{c:rc Mk}(h:Cf w n z c)(b:AI w m y 145)(k:Ac [m] w u):Cf u n z c:=
 ⟨Ag h.row k (MT h.row b (by rfl)),λp a=>⟨Ag (h.each p a).1 k (MT (h.each p a).1 b (by rfl)),(h.each p a).2⟩⟩
structure kW(w:ly)(bv:ml)(zD:rc Mk)(body:rc Bw):Prop where
 at_:Cf w 0 bv zD
 map:zD.map Prod.fst=body.map MA
 zM:∀p∈zD,Hw p.1
 len:Z zD<=3
def Zx(k:Ac M w u)(h:oa w ⟨b,n,Y⟩=V z)(d:b∉M):oa u ⟨b,n,Y⟩=V z:=by
 unfold World.cell? at h⊢;have c:b<w.heap.size:=by
  rcases Nat.lt_or_ge b w.heap.size with a|a
  .exact a
  .simp[pU a]at h
 rw[k.block b c d];exact h
def kW.zR{a:rc Mk}{b:rc Bw}(h:kW w z a b):A7 a=(b.flatMap BC).map ct:=by
 unfold A7;have e:a.flatMap (λp=>AS p.1)=(a.map Prod.fst).flatMap AS:=by rw[List.flatMap_map]
 rw[e,h.map,List.flatMap_map,qw]
 congr 1
 funext x
 exact Re x
def kW.vars{b:rc Mk}{a:rc Bw}(h:kW w z b a):Ef (A7 b)=Dd (Bf a):=by
 rw[h.zR,SC];rfl
def kW.litW{g:rc Mk}{i:rc Bw}(h:kW w z g i)(n:∀x∈i,Dz x):∀x∈i,QJ (MA x):=by
 intro x l;obtain⟨p,f,m⟩:∃p∈g,p.1=MA x:=by
  have:MA x∈g.map Prod.fst:=by rw[h.map];exact mR l
  obtain⟨p,f,e⟩:=mD.1 this;exact⟨p,f,e⟩
 have d:=h.zM p f;rw[m]at d;have a:=n x l;unfold Dz at a;by_cases b:(x.kind==97||x.kind==33)=true
 .rw[mK b]at a;have k:=d.bare (by rw[I4];exact b);refine⟨by have:=d.le;omega,λt c=>?_,by rw[k.1];exact Or.inl rfl,by rw[k.2];exact Or.inl rfl⟩;obtain⟨u,o,rfl⟩:=mD.1 c;exact Lc (a.args u o)
 .rw[mJ b]at a;have j:=d.plain (by rw[I4];simpa using b);refine⟨by rw[j];simp,λt c=>?_,Lc a.1,Lc a.2.1⟩;rw[j]at c;simp at c
def kW.fit{a:rc Mk}{f:rc Bw}(h:kW w z a f):(∀p∈a,0<Z (AS p.1)/\Z (AS p.1)<=1000)/\Z (A7 a)<=90000:=by
 have c:∀p∈a,0<Z (AS p.1)/\Z (AS p.1)<=1000:=λp b=>by
  have d:=h.zM p b;have:=d.le;unfold AS;split
  .rename_i e;exact⟨d.some e,by omega⟩
  .exact⟨by simp,by simp⟩
 refine⟨c,?_⟩;have g:=Jy (λp b=>(c p b).2);have:=h.len;omega
theorem Th(k n:Nat)(F:Option Addr)(G:Nat)(q:rc Eb)(i:Option Addr)(h:Nat)(b:rc Mk)(a:rc Bw)(s:rc Af)(w:ly)(N:Nat)(cs:rc ml)
  (hN:AI w N cs 145) (B2:k∉[N]) (hc:oa w ⟨k,n,Y⟩=V (U F (Z q) G)) (hF:Io w (U F (Z q) G) q) (e:kW w (U i (Z b) h) b a) (S:Cx q s) (BA:Z s<=10000) (o:aK a s) (h6:Z (Bf a)<=6):
  Calls prog 94 #[j3 (V ⟨k,n,Y⟩),U i (Z b) h] w λr c=>∃l E,r=kt (.func (.func 140) #[] #[j3 (V ⟨E,0,Y⟩)])/\AI c E [j3 (V ⟨l,0,Y⟩)] 233/\w.heap.size<=E/\(∀d,Ac [N] c d->eR d l a s (Bf a))/\Ac [] w c:=by
 obtain⟨CC,T⟩:=e.fit;have I:=Ab (Rd i h b w e.at_ (by have:=e.len;omega) CC);have H:Hid (∀z D d,oi d w.heap.size 215 2 (U z (Z (A7 b)) D) (Z (A7 b)) ((A7 b).flatMap Ar)->Calls prog 138 #[U z (Z (A7 b)) D] d λr c=>∃A B,r=kt (U A (Z (Bf a)) B)/\oi c d.heap.size 21 1 (U A (Z (Dd (Bf a))) B) (Z (Dd (Bf a))) ((Dd (Bf a)).flatMap AX)/\Ac [] d c):=by
  intro z D d C;refine(Pb z D _ _ d C T).mono ?_;rintro r c ⟨A,B,rfl,y,t⟩;rw[e.vars]at y;exact⟨A,B,by rw[e.vars,GX],y,t⟩
 have BS:Hid (∀l f g c,Ac [] w c->w.heap.size<=l->AI c l [j3 (V ⟨k,n,Y⟩),U i (Z b) h,U f (Z (Bf a)) g] 237->oi c 0 21 1 (U f (Z (Dd (Bf a))) g) (Z (Dd (Bf a))) ((Dd (Bf a)).flatMap AX)->∀d,Ac [N] c d->eR d l a s (Bf a)):=by
  intro l f g c m EK P C d p;have u:=hN.kept m;have CL:Z a=Z b:=by have:=congrArg List.length e.map;simpa using this.symm
  have CW:=e.len;refine⟨⟨k,n,i,h,b,f,g,F,G,q,⟨?_,?_,(hF.kept m).yL u p⟩,(e.at_.kept m).yL u p,e.map,Ag C p (MT C u (by rfl)),S⟩,BA,λx hx=>⟨o.lits x hx,e.litW o.lits x hx⟩,by omega,by omega,o.fit,λv hv=>(o.vars v hv).1⟩
  .rw[GX];exact P.kept p (Z4 P u (by rfl))
  .exact Zx p (m.cellAt hc) B2
 clear hF e S o hN hc;generalize(A7 b)=BT at I H T;go_enter func94,ntmps94;go_wp2_with fail
 refine(Aa I).mono ?_;rintro _ w1 ⟨A2,A1,rfl,W,L⟩;have M:=Ab (Aa H A2 A1 w1 W);have Q:=Ab L;clear I H W L;go_wp2_with fail
 refine(Aa M).mono ?_;rintro _ j ⟨f,g,rfl,Ax,k2⟩;have A0:=Ab Ax;have R:=Ab ((Aa Q).trans k2);have B0:=(Aa R).size;clear M Q Ax k2;go_wp2;go_ret;have y:=(rf j [j3 (V ⟨k,n,Y⟩),U i (Z b) h,U f (Z (Bf a)) g] 237).alloc (.cells #[j3 (V ⟨j.heap.size,0,Y⟩)] 233);have t:=rf (j.alloc (.cells #[j3 (V ⟨k,n,Y⟩),U i (Z b) h,U f (Z (Bf a)) g] 237)) [j3 (V ⟨j.heap.size,0,Y⟩)] 233;rw[m9]at t;have m:=((Aa R).alloc (.cells #[j3 (V ⟨k,n,Y⟩),U i (Z b) h,U f (Z (Bf a)) g] 237)).alloc (.cells #[j3 (V ⟨j.heap.size,0,Y⟩)] 233);exact⟨j.heap.size,j.heap.size+1,rfl,t,by omega,Aa BS j.heap.size f g _ m B0 y (Ak (((Aa A0).alloc _).alloc _) (mO _)),m⟩
