import Derived.Test.YtoihbhenbmffcaaGreatZAX
import Derived.Test.YtoihbhenbmffcaaGreatZAQ
set_option linter.all false
set_option maxHeartbeats 0
open List renaming length->Z
open Option renaming none->Y
open Go.Value renaming slice->U,pointer->j2
namespace Go.Proofs.YtoihbhenbmffcaaGreat
open Go.RowKit Go.Proofs.Tryz
variable{p:kJ CB}{c:kJ AY}{n m i:Nat}{w v:World}{z:Value}
structure Ih(pcs:kJ CB)(rcs:kJ AY):Prop where
 zg:F2 Qj pcs rcs
 pass:CX rcs
 zN:∀c∈pcs,JB c.pc
 names:∀c∈pcs,c.hn.size<=1000000/\∀p∈c.zE,p.1.an.size<=1000000
def Ih.len(h:Ih p c):Z p<=1000:=by rw[h.zg.lenX];exact h.pass.order.small.1
def Ih.fit{a:kJ AY}(h:Ih p a){c:CB}(b:c∈p):eQ c:=(Qc (h.zN c b)).1
def Ih.litW{i:kJ CB}{n:kJ AY}(h:Ih i n){c:CB}{r:AY}(y:c∈i)(k:r∈n)(v:Qj c r):∀x∈Ak r,PR (L1 x):=by
 intro x o;obtain⟨q,g,rfl⟩:=fC.1 o;obtain⟨p,s,j⟩:=v.lits.mem q g;have b:=h.pass.lits r k q.1 o;have f:=(h.pass.order.small.2 r k).2.2 q g;have z:Z q.1.A.args<=2:=by
  unfold Bo at f;have:=jV f;omega
 have e:=(h.zN c y).lits p.1 (by simp only[CB.pc];exact fW s);rw[j.eq]at e;unfold DN at b;by_cases d:(q.1.kind==97||q.1.kind==33)=true
 .rw[fF d]at b;have m:=e.bare (by rw[Mz];exact d);refine⟨by show Z (q.1.A.args.map ct)<=1000;rw[fH];omega,λt a=>?_,by rw[m.1];exact Or.inl rfl,by rw[m.2];exact Or.inl rfl⟩;obtain⟨u,w,rfl⟩:=fC.1 a;exact Pj (b.args u w)
 .rw[fB d]at b;have l:=j.plain (by unfold On;simpa using d);refine⟨by show Z (q.1.A.args.map ct)<=1000;rw[l];simp,λt a=>?_,Pj b.1,Pj b.2.1⟩;have a:t∈q.1.A.args.map ct:=a;rw[l]at a;simp at a
def Ih.ze(h:Ih p c){L:zA->Nat}{s:kJ Ag}(a:Jj c L n s):D5 s/\(∀f∈s,AQ f)/\Z s<=6912:=by
 have d:=h.pass.order.few s (a.zH.nodup λf b=>(a.zX f b).canon h.pass.prog.zL) a.zX;exact⟨a.zH,λf b=>(a.zX f b).canon h.pass.prog.zL,by omega⟩
def Ih.cl(h:Ih p c){L:zA->Nat}{s:kJ Ag}(k:Jj c L n s)(i:m<Z p)(g:m<Z c):Pp p[m] c[m] s:=by
 have j:=h.zg.at m i g;have e:p[m]∈p:=fj i;have a:c[m]∈c:=fj g;have o:=h.ze k;refine⟨j,(h.fit e).pc,(h.fit e).zQ,λx b=>⟨h.pass.lits _ a x b,h.litW e a j x b⟩,U1 h.pass.prog.zN a (h.pass.lits _ a),h.pass.zL _ a,λf r x b q v=>?_,o.2.1,by omega⟩;obtain⟨d,l,t,u⟩:=(k.zX f r).ze;rw[u];exact h.pass.order.ar3 d l _ a x b q (by rw[<-t];exact v)
def Ih.steps(h:Ih p c){L:zA->Nat}(w:Dl c L){s:kJ Ag}(g:Jj c L n s){l:kJ (Nat×GE Ag)}(M:bK c l s)(u:m<Z p)(o:m<Z c)(B:L c[m].head.name=n):Xj p (λl s=>Jj c L n s/\bK c l s) m c[m] l s:=by
 have d:=h.cl g u o;have z:c[m]∈c:=fj o;have y:∀v e,∀t∈Kv (Ak c[m]) s v e,t.size≠0:=λv e t q=>(d.al v e t q).size
 have k:∀f∈Hi c[m] s,f∉s/\∃σ,(∀x∈Ak c[m],B7 (Br σ) (Ev σ) s x=true)/\f=Br σ c[m].head:=λf a=>Se d.parts y a
 have C:∀j,Jj c L n (((Hi c[m] s).take j).foldl Ba s):=λj=>(Kc (h.pass.other w) g z B ((Hi c[m] s).take j) s (λf a=>(k f (iy a)).2) g (λf a=>a) (λf a=>Or.inl a)).1
 have i:∀f∈Hi c[m] s,AQ f/\Z f.args<=1000:=by
  intro f a;unfold Hi QE at a;obtain⟨b,D,rfl⟩:=fC.1 a;have N:=KZ d.al d.parts d.head (fT.1 D).1;refine⟨Gc N,?_⟩;have:=(h.pass.order.small.2 _ z).2.1;unfold Av;simp only[fH];omega
 have A:=Fd c[m].head.args [] i7;have r:(Hi c[m] s).Nodup:=XY (λv e=>Rz d.canon d.fitA v e) y d.parts A.2.1 (λv I=>by
  rcases(A.2.2 v).1 I with h|⟨_,t,q,e⟩
  .simp at h
  .exact⟨t,q,e⟩)
 refine⟨u,d,r,λf a=>⟨(k f a).1,(i f a).1,(i f a).2⟩,?_,λP G E j=>⟨C j,M.batch w g.zH d.canon (λf a=>g.work.top f a) o B r (λf a=>⟨(k f a).1,(i f a).1⟩) G E j⟩⟩;have H:=UN (Hi c[m] s) s g.zH d.canon r (λf a=>⟨(k f a).1,(i f a).1⟩);have F:=(h.ze (C (Z (Hi c[m] s)))).2.2;rw[gT,H]at F;omega
def I5(rcs:kJ AY)(ns:kJ Nat):kJ AY:=ns.filterMap λi=>rcs[i]?
def UG{b:kJ AY}{R:Nat->AY->Prop}:∀(a:kJ Nat),(∀i∈a,∃h:i<Z b,R i b[i])->F2 R a (I5 b a)
 |[],_=>F2.nil
 |i::a,h=>by
  obtain⟨f,d⟩:=h i (by simp);have ih:=UG a (λj c=>h j (by simp[c]));have e:I5 b (i::a)=b[i]::I5 b a:=by
   unfold I5;rw[jN,fI f]
  rw[e];exact F2.cons d ih
def I3(h:F2 Qj p c)(a:i<Z c):GD p i=c[i].head.name:=by
 have b:i<Z p:=by rw[h.lenX];exact a
 have:=(h.at i b a).hn;unfold GD;rw[fI b];exact this
def Ye{b:kJ AY}(h:F2 Qj p b){L:zA->Nat}(c:AY):c∈I5 b ((List.range (Z p)).filter λi=>L (GD p i)==n)↔c∈b/\L c.head.name=n:=by
 unfold I5;rw[ig];constructor
 .rintro ⟨i,a,e⟩;obtain⟨a,f⟩:=fT.1 a;obtain⟨d,rfl⟩:=jt.1 e;rw[I3 h d]at f;exact⟨fj d,by simpa using f⟩
 .rintro ⟨g,j⟩;obtain⟨i,a,rfl⟩:=gv g;refine⟨i,fT.2 ⟨List.mem_range.2 (by rw[h.lenX];exact a),?_⟩,fI a⟩;rw[I3 h a];simpa using j
def FR.parts(h:FR w v){b:kJ OP}(a:DP w n z b):DP v n z b:=⟨h.row a.row (by decide) (by decide) (by decide),λp c=>h.row (a.each p c) (by decide) (by decide) (by decide),a.apart⟩
def eE(lad:Option Addr)(lcp:Nat)(pcs:kJ CB)(rcs:kJ AY)(w:World)(r:Ending)(w':World):Prop:=∃(cb:Nat) (s:kJ Ag) (hs:kJ (Nat×GE Ag)) (L:zA->Nat) (N:Nat),r=.returned (j2 (some ⟨cb,0,Y⟩))/\Lg w cb (U lad (Z pcs) lcp) [] [] s hs w'/\bK rcs hs s/\Dl rcs L/\Jj rcs L N s/\∀c∈rcs,L c.head.name<N
set_option maxRecDepth 100000
theorem QF(m:Option Addr)(j:Nat)(b:kJ CB)(a:kJ AY)(w:World)(hP:Cv w (U m (Z b) j) b)(A:Ih b a):
  Calls prog 50 #[U m (Z b) j] w λr G=>eE m j b a w r G:=by
 have HW:=A.len;have EX:∀x,BJ a 6 x<=6:=Qt a 6;have HD:D4 a (BJ a 6)<=100000:=by
  have P:∀(l:kJ AY),D4 l (BJ a 6)<=Z l*6:=λl=>by
   induction l with
   |nil=>simp[D4]
   |cons c l ih=>
    (have e:D4 (c::l) (BJ a 6)=BJ a 6 c.head.name+D4 l (BJ a 6):=by unfold D4;simp);have:=EX c.head.name;rw[e,fD,iz];omega
  have h2:=P a;have h3:=A.pass.order.small.1;omega
 have Ha:Hid (∀t,Ac [] w t->Calls prog 88 #[U m (Z b) j] t λr G=>Xx b a (BJ a 6) t r G):=λt hk=>Wj m j b a t (BJ a 6) (hP.kept hk) A.zg (by omega) (λc hc=>(A.fit hc).pc.lits) A.names A.pass.prog.lay (λx=>by have:=EX x;omega) HD
 have HV:=Ab hP;have z:=Ab A;have FW:=Ab HW;have I:Hid (Lg w w.heap.size (U m (Z b) j) [] [] [] [] (w.alloc (.cells [U m (Z b) j,U Y 0 0,U Y 0 0].toArray 110))):=⟨(kL [] w).alloc _,fJ _,Y,0,[],Y,0,[],kN w _ 110,⟨fK _ _ _ _,λp R=>by simp at R⟩,⟨rfl,List.Pairwise.nil,λf hf=>by simp at hf⟩,fK _ _ _ _,λq hq=>by simp[Value.ownBlock]at hq,λq hq=>by simp,rfl,λp R=>by simp at R⟩;obtain⟨y,HM⟩:=kK w.heap.size;clear hP A EX HD;go_enter func50,ntmps50;go_wp2_with fail
 have Bx:=Ab I.kept;change Calls _ _ _ (w.alloc (.cells [U m (Z b) j,U Y 0 0,U Y 0 0].toArray 110)) _;generalize w.alloc (.cells [U m (Z b) j,U Y 0 0,U Y 0 0].toArray 110)=w1 at I Bx⊢;rw[HM]at I;clear HM;refine(Ha w1 Bx).mono ?_;rintro _ w2 ⟨ad,cp,v,L,rfl,T,CL,FL,H3,k2⟩;have HB:=Ab (I.grow k2);have HJ:=Ab (DP.mk (Al T.row (fP _)) (λp R=>Al (T.each p R) (fP _)) T.apart);have Go:=Ab CL;have AR:=Ab FL;have K3:=CL.len;clear I Bx Ha T CL FL H3 k2;go_wp2_with fail
 go_loopg [12] (Z v) (λgk i wr=>∃(k:Nat) (s:kJ Ag) (d:kJ (Nat×GE Ag)),i=.int .i64 k/\k<=Z v/\gk=Z v-k/\Hid (Jj a L k s/\bK a d s)/\Hid (Lg w y (U m (Z b) j) [] [] s d wr)/\Hid (FR w2 wr))
 case atStart=>exact⟨0,[],[],rfl,by omega,rfl,⟨Jj.start _ _,bK.start _⟩,HB,FR.refl _⟩
 case round=>
  clear HB;obtain⟨k,s,d,rfl,hk,HP,C,Q,H⟩:=hrel;have HG:=Ab HP;clear HP;by_cases B9:k<Z v
  .obtain⟨g,K7,FB,HU,M,hv,HA⟩:=Rr (H.parts HJ) k B9;simp only[fg]at M;obtain⟨rfl,-,rfl⟩:=M;have Ax:=HJ.each _ (fj B9);rw[hv]at Ax;have AB:=Go.lists k B9;obtain⟨o,FP⟩:=kK (v[k].1);rw[FP]at Ax AB HA;have Ix:=Ab Ax;have HN:=Ab AB;have HT:Z o<=1000:=by
    rw[AB];have:=ib (λi=>L (GD b i)==k) (List.range (Z b));rw[List.length_range]at this;have:=Aa FW;omega
   have H2:=Ab HT;obtain⟨NL,BA⟩:=kK (Z o);have H8:=Ab BA;rw[BA]at HA;(have K5:(0:Int)<=(k:Int):=by omega);(have K1:(k:Int)<(Z v:Int):=by omega);have HZ:Hid (∀s d t,Jj a L k s/\bK a d s->Lg w y (U m (Z b) j) [] [] s d t->FR w2 t->Calls prog 89 #[j2 (some ⟨y,0,Y⟩),U FB NL HU] t λr G=>∃u F,u=(Fv (Ek ee) (I5 a o) s).1/\r=.returned (.bool (decide (Z s<Z u)))/\(Jj a L k u/\bK a F u)/\Lg w y (U m (Z b) j) [] [] u F G/\FR t G):=by
    intro s d t B hC hR;rw[<-Aa H8];refine ZN (λd s=>Jj a L k s/\bK a d s) w y m j b FB HU o (I5 a o) s d t HV (by have:=Aa FW;omega) H2 (hR.row Ix (by decide) (by decide) (by decide)) hC B (λd s B=>by have h:=z.ze B.1;exact⟨h.1,h.2.1,by omega⟩) (λd s B=>UG o (λi D=>?_));rw[Aa HN]at D;obtain⟨D,S⟩:=fT.1 D;have E0:=List.mem_range.1 D;(have EM:i<Z a:=by rw[<-(Aa z).zg.lenX];exact E0);refine⟨EM,z.steps AR B.1 B.2 E0 EM ?_⟩;rw[<-I3 (Aa z).zg EM];simpa using S
   have HY:Hid (∀s,Jj a L k s->((Fv (Ek ee) (I5 a o) s).2=false->(Fv (Ek ee) (I5 a o) s).1=s/\Jj a L (k+1) s)/\((Fv (Ek ee) (I5 a o) s).2=true->Z s<Z (Fv (Ek ee) (I5 a o) s).1)):=by
    intro s B;have h:=z.pass.grow (al:=ee) (λc _ s=>Hd (Ak c) s) AR (n:=k) (ds:=I5 a o) (λc=>by rw[Aa HN];exact Ye z.zg c) B;exact⟨h.2.1,h.2.2.1⟩
   clear Ax AB HT hv FP BA;go_wp2_with fail
   go_loopg [] (7000-Z s) (λJJ wq=>∃(s:kJ Ag) (d:kJ (Nat×GE Ag)),JJ=7000-Z s/\Hid (Jj a L k s/\bK a d s)/\Hid (Lg w y (U m (Z b) j) [] [] s d wq)/\Hid (FR w2 wq))
   case atStart=>exact⟨s,d,rfl,C,Q,H⟩
   case round=>
    clear C Q H;obtain⟨s,d,HQ,C,Q,H⟩:=hrel;have H7:=Ab HQ;clear HQ;have HS:=Ab (HZ s d wr C Q H);(go_wp2_with fail);refine HS.mono ?_;rintro _ w5 ⟨u,W,F,rfl,HH,HL,FA⟩;have K2:=Ab F;have AT:=Ab HH;have FC:=Ab HL;have FF:=Ab (H.trans FA);have CW:=Aa HY s C.1;rw[<-F]at CW;have H0:=Ab CW;clear HS F HH HL FA CW;by_cases E:Z s<Z u
    .have N:decide (Z s<Z u)=true:=ix E;rw[N];have H9:=Ab E;clear N E;go_wp2_with fail
     go_roundg (7000-Z u)
     case measure=>
      have P:=(z.ze AT.1).2.2;have h2:=Aa H9;have h3:=Aa H7;omega
     case rel=>exact⟨u,W,rfl,AT,FC,FF⟩
    .have N:decide (Z s<Z u)=false:=ic E;rw[N];have HE:Hid (u=s/\Jj a L (k+1) s):=by
      have h:=Aa H0;cases S:(Fv (Ek ee) (I5 a o) s).2 with
      |true=>exact absurd (h.2 S) E
      |false=>exact h.1 S
     have Jx:Hid (Lg w y (U m (Z b) j) [] [] s W w5):=by
      have h:=Aa FC;rw[(Aa HE).1]at h;exact h
     have IJ:Hid (bK a W s):=by
      have h:=AT.2;rw[(Aa HE).1]at h;exact h
     clear N E;go_wp2_with fail
     go_roundg (Z v-(k+1))
     case measure=>have:=Aa HG;omega
     case rel=>exact⟨k+1,s,W,by go_num,by omega,rfl,⟨HE.2,IJ⟩,Jx,FF⟩
  ·(have M:k=Z v:=by omega);(have H4:Hid (Jj a L (Z v) s):=by have h:=C.1;rw[M]at h;exact h);clear M;go_wp2;go_ret;refine⟨y,s,d,L,Z v,rfl,Q,C.2,AR,H4,λc hc=>?_⟩;obtain⟨i,D,rfl⟩:=gv hc;have P:=Go.top i (by rw[(Aa z).zg.lenX];exact D);rw[I3 (Aa z).zg D]at P;exact P
def dC(lad:Option Addr)(lcp:Nat)(pcs:kJ CB)(rcs:kJ AY)(w:World)(r:Ending)(w':World):Prop:=∃(cb:Nat) (s:kJ Ag) (L:zA->Nat) (N:Nat),r=.returned (j2 (some ⟨cb,1,Y⟩))/\Tf w cb (U lad (Z pcs) lcp) [] s w'/\Dl rcs L/\Jj rcs L N s/\∀c∈rcs,L c.head.name<N
theorem N0(c:Option Addr)(b:Nat)(a:kJ CB)(d:kJ AY)(w:World)(g:Cv w (U c (Z a) b) a)(k:Ih a d):
  Calls prog 25 #[U c (Z a) b] w λr m=>dC c b a d w r m:=by
 have f:=Ab (QF c b a d w g k);clear g k;go_enter func25,ntmps25;go_wp2_with fail
 refine f.mono ?_;rintro _ n ⟨e,s,p,L,N,rfl,j,_,h,l,i⟩;have o:Hid (dC c b a d w (.returned (j2 (some ⟨e,1,Y⟩))) n):=⟨e,s,L,N,rfl,j.cou,h,l,i⟩;clear f j h l i;go_wp2;go_ret;exact o
