import Derived.Test.YtoihbhenbmffcaaGreatDoorZBO
import Derived.Test.YtoihbhenbmffcaaGreatDoorZBE
set_option linter.unusedVariables false
set_option linter.unusedSimpArgs false
set_option maxHeartbeats 6400000
namespace Go.Proofs.YtoihbhenbmffcaaGreatDoor
open Go.RowKit
open Go.Proofs.Tryz
structure ME(pcs:List Da)(rcs:List Bf):Prop where
 cor:F2 Qg pcs rcs
 pass:D7 rcs
 good:∀c∈pcs,ID c.pc
 names:∀c∈pcs,c.hn.size<=1000000/\∀p∈c.lvs,p.1.an.size<=1000000
theorem ME.len{a:List Da}{b:List Bf}(h:ME a b):a.length<=12:=by rw[h.cor.length];exact h.pass.order.small.1
theorem ME.fit{a:List Da}{d:List Bf}(h:ME a d){c:Da}(b:c∈a):ZR c:=(Oe (h.good c b)).1
theorem ME.litW{n:List Da}{f:List Bf}(h:ME n f){c:Da}{r:Bf}(y:c∈n)(j:r∈f)(v:Qg c r):∀x∈Al r,NR (Lg x):=by
 intro x o;obtain⟨q,g,rfl⟩:=az.1 o;obtain⟨p,s,i⟩:=v.lits.mem q g;have a:=h.pass.lits r j q.1 o;have e:=(h.pass.order.small.2 r j).2.2 q g;have z:q.1.A.args.length<=2:=by
  unfold Bp at e;have:=of_decide_eq_false e;omega
 have m:=(h.good c y).lits p.1 (by simp only[Da.pc];exact aM s);rw[i.eq]at m;unfold DC at a;by_cases d:(q.1.kind==97||q.1.kind==33)=true
 ·rw[if_pos d]at a;have l:=m.bare (by rw[KV];exact d);refine⟨by show(q.1.A.args.map ct).length<=1000;rw[aD];omega,λt b=>?_,by rw[l.1];exact Or.inl rfl,by rw[l.2];exact Or.inl rfl⟩;obtain⟨u,w,rfl⟩:=az.1 b;exact Nj (a.args u w)
 ·rw[if_neg d]at a;have k:=i.plain (by unfold Nf;simpa using d);refine⟨by show(q.1.A.args.map ct).length<=1000;rw[k];simp,λt b=>?_,Nj a.1,Nj a.2.1⟩;have b:t∈q.1.A.args.map ct:=b;rw[k]at b;simp at b
theorem ME.way{e:List Da}{b:List Bf}(h:ME e b){L:cL->Nat}{n:Nat}{s:List Aj}(a:IL b L n s):F1 s/\(∀f∈s,A6 f)/\s.length<=6912:=by
 have j:=a.len h.pass.prog.heads;have i:=SC h.pass.order.small.1 (λc g=>(h.pass.order.small.2 c g).2.1);exact⟨a.rise,λf d=>(a.inn f d).canon h.pass.prog.heads,by omega⟩
theorem ME.cl{e:List Da}{b:List Bf}(h:ME e b){L:cL->Nat}{n:Nat}{s:List Aj}(m:IL b L n s){a:Nat}(k:a<e.length)(j:a<b.length):OC e[a] b[a] s:=by
 have l:=h.cor.at a k j;have i:e[a]∈e:=Z7 k;have c:b[a]∈b:=Z7 j;have p:=h.way m;refine⟨l,(h.fit i).pc,(h.fit i).terms,λx g=>⟨h.pass.lits _ c x g,h.litW i c l x g⟩,SF h.pass.prog.good c (h.pass.lits _ c),h.pass.heads _ c,λf r x g q v=>?_,p.2.1,by omega⟩;obtain⟨d,o,t,u⟩:=(m.inn f r).way;rw[u];exact h.pass.order.ar3 d o _ c x g q (by rw[<-t];exact v)
theorem ME.steps{l:List Da}{a:List Bf}(h:ME l a){L:cL->Nat}(C:Dt a L){n:Nat}{s:List Aj}(i:IL a L n s){c:Nat}(q:c<l.length)(p:c<a.length)(E:L a[c].head.name=n):UQ l (IL a L n) c a[c] s:=by
 have g:=h.cl i q p;have u:a[c]∈a:=Z7 p;have r:∀v e,∀t∈KA (Al a[c]) s v e,t.size≠0:=λv e t k=>(g.al v e t k).size
 have o:∀f∈GZ a[c] s,f∉s/\∃σ,(∀x∈Al a[c],C1 (BJ σ) (EC σ) s x=true)/\f=BJ σ a[c].head:=λf d=>PU g.parts r d
 have z:∀j,IL a L n (((GZ a[c] s).take j).foldl Bs s):=λj=>(Ja (h.pass.other C) i u E ((GZ a[c] s).take j) s (λf d=>(o f (cT d)).2) i (λf d=>d) (λf d=>Or.inl d)).1
 have m:∀f∈GZ a[c] s,A6 f/\f.args.length<=1000:=by
  intro f d;unfold GZ OF at d;obtain⟨b,A,rfl⟩:=az.1 d;have G:=MS g.al g.parts g.head (aJ.1 A).1;refine⟨GH G,?_⟩;have:=(h.pass.order.small.2 _ u).2.1;unfold AI;simp only[aD];omega
 have y:=EB a[c].head.args [] cZ;have w:(GZ a[c] s).Nodup:=Vr (λv e=>Pt g.canon g.fitA v e) r g.parts y.2.1 (λv F=>by
  rcases(y.2.2 v).1 F with h|⟨_,t,k,e⟩
  ·simp at h
  ·exact⟨t,k,e⟩)
 refine⟨q,g,w,λf d=>⟨(o f d).1,(m f d).1,(m f d).2⟩,?_,z⟩;have D:=St (GZ a[c] s) s i.rise g.canon w (λf d=>⟨(o f d).1,(m f d).1⟩);have B:=(h.way (z (GZ a[c] s).length)).2.2;rw[dv,D]at B;omega
def Hx(rcs:List Bf)(ns:List Nat):List Bf:=ns.filterMap λi=>rcs[i]?
theorem So{b:List Bf}{R:Nat->Bf->Prop}:∀(a:List Nat),(∀i∈a,∃h:i<b.length,R i b[i])->F2 R a (Hx b a)
 |[],_=>F2.nil
 |i::a,h=>by
  obtain⟨f,d⟩:=h i (by simp);have ih:=So a (λj c=>h j (by simp[c]));have e:Hx b (i::a)=b[i]::Hx b a:=by
   unfold Hx;rw[List.filterMap_cons,aA f]
  rw[e];exact F2.cons d ih
theorem Hv{a:List Da}{b:List Bf}(h:F2 Qg a b){i:Nat}(c:i<b.length):FU a i=b[i].head.name:=by
 have d:i<a.length:=by rw[h.length];exact c
 have:=(h.at i d c).hn;unfold FU;rw[aA d];exact this
theorem VJ{b:List Da}{d:List Bf}(h:F2 Qg b d){L:cL->Nat}{n:Nat}(c:Bf):c∈Hx d ((List.range b.length).filter λi=>L (FU b i)==n)↔c∈d/\L c.head.name=n:=by
 unfold Hx;rw[cD];constructor
 ·rintro ⟨i,a,e⟩;obtain⟨a,g⟩:=aJ.1 a;obtain⟨f,rfl⟩:=dF.1 e;rw[Hv h f]at g;exact⟨Z7 f,by simpa using g⟩
 ·rintro ⟨j,k⟩;obtain⟨i,a,rfl⟩:=aZ j;refine⟨i,aJ.2 ⟨List.mem_range.2 (by rw[h.length];exact a),?_⟩,aA a⟩;rw[Hv h a];simpa using k
theorem FV.parts{w w':World}(h:FV w w'){base:Nat}{c:Value}{b:List MG}(a:Dl w base c b):Dl w' base c b:=⟨h.row a.row (by decide) (by decide) (by decide),λp d=>h.row (a.each p d) (by decide) (by decide) (by decide),a.apart⟩
def ZM(lad:Option Addr)(lcp:Nat)(pcs:List Da)(rcs:List Bf)(w:World)(r:Ending)(w':World):Prop:=∃(cb:Nat) (s:List Aj) (L:cL->Nat) (N:Nat),r= .returned (.pointer (some ⟨cb,0,none⟩))/\Ft w cb (.slice lad pcs.length lcp) [] s w'/\Dt rcs L/\IL rcs L N s/\∀c∈rcs,L c.head.name<N
set_option maxRecDepth 100000
theorem OI(j:Option Addr)(d:Nat)(b:List Da)(a:List Bf)(w:World)(Z:Dv w (.slice j b.length d) b)(z:ME b a):
  Calls prog 74 #[.slice j b.length d] w λr E=>ZM j d b a w r E:=by
 have HQ:=z.len;have AH:∀x,BV a 6 x<=6:=Ow a 6;have FW:Dz a (BV a 6)<=100000:=by
  have J:∀(l:List Bf),Dz l (BV a 6)<=l.length*6:=λl=>by
   induction l with
   |nil=>simp[Dz]
   |cons c l ih=>
    (have e:Dz (c::l) (BV a 6)=BV a 6 c.head.name+Dz l (BV a 6):=by unfold Dz;simp);have:=AH c.head.name;rw[e,ak,ce];omega
  have h2:=J a;have h3:=z.pass.order.small.1;omega
 have FL:Hid (∀o,Ac [] w o->Calls prog 123 #[.slice j b.length d] o λr E=>U3 b a (BV a 6) o r E):=λo hk=>TY j d b a o (BV a 6) (Z.kept hk) z.cor (by omega) (λc U=>(z.fit U).pc.lits) z.names z.pass.prog.lay (λx=>by have:=AH x;omega) FW
 have HP:=Ab Z;have y:=Ab z;have FC:=Ab HQ;have G:Hid (Ft w w.heap.size (.slice j b.length d) [] [] (w.alloc (.cells [.slice j b.length d, .slice none 0 0, .slice none 0 0].toArray 139))):=⟨(Ac.refl [] w).alloc _,au _,none,0,[],none,0,[],Aw.new w _ 139,⟨ax _ _ _ _,λp hp=>by simp at hp⟩,⟨rfl,List.Pairwise.nil,λf hf=>by simp at hf⟩,ax _ _ _ _,λq hq=>by simp[Value.ownBlock]at hq,λq hq=>by simp⟩;obtain⟨v,HF⟩:∃v,w.heap.size=v:=⟨_,rfl⟩;clear Z z AH FW;go_enter func74,ntmps74;go_wp2_with fail
 have S:=Ab (Aa G).kept;change Calls _ _ _ (w.alloc (.cells [.slice j b.length d, .slice none 0 0, .slice none 0 0].toArray 139)) _;generalize w.alloc (.cells [.slice j b.length d, .slice none 0 0, .slice none 0 0].toArray 139)=w1 at G S⊢;rw[HF]at G;clear HF;refine(Aa FL w1 (Aa S)).mono ?_;rintro _ w2 ⟨ad,cp,u,L,rfl,N,W,EK,HY,k2⟩;have FP:=Ab ((Aa G).grow k2);have HA:=Ab (Dl.mk (Ai N.row (aG _)) (λp hp=>Ai (N.each p hp) (aG _)) N.apart);have FF:=Ab W;have R:=Ab EK;have KK:=W.len;clear G S FL N W EK HY k2;go_wp2_with fail
 go_loopg [12] u.length (λgk i wr=>∃(k:Nat) (s:List Aj),i= .int .i64 k/\k<=u.length/\gk=u.length-k/\Hid (IL a L k s)/\Hid (Ft w v (.slice j b.length d) [] s wr)/\Hid (FV w2 wr))
 case atStart=>exact⟨0,[],rfl,by omega,rfl,IL.start _ _,FP,FV.refl _⟩
 case round=>
  clear FP;obtain⟨k,s,rfl,hk,HK,D,K,F⟩:=hrel;have HG:=Ab HK;clear HK;by_cases V:k<u.length
  ·obtain⟨g,K3,B9,HO,H,hv,FO⟩:=Pm ((Aa F).parts (Aa HA)) k V;simp only[Z6]at H;obtain⟨rfl,-,rfl⟩:=H;have O:=(Aa HA).each _ (Z7 V);rw[hv]at O;have P:=(Aa FF).lists k V;obtain⟨m,EY⟩:∃m,u[k].1=m:=⟨_,rfl⟩;rw[EY]at O P FO;have H5:=Ab O;have HH:=Ab P;have HN:m.length<=1000:=by
    rw[P];have:=bO (λi=>L (FU b i)==k) (List.range b.length);rw[List.length_range]at this;have:=Aa FC;omega
   have HX:=Ab HN;obtain⟨Q,T⟩:∃Q,m.length=Q:=⟨_,rfl⟩;have H3:=Ab T;rw[T]at FO;(have K1:(0:Int)<=(k:Int):=by omega);(have Jx:(k:Int)<(u.length:Int):=by omega);have HU:Hid (∀s o,IL a L k s->Ft w v (.slice j b.length d) [] s o->FV w2 o->Calls prog 124 #[.pointer (some ⟨v,0,none⟩), .slice B9 Q HO] o λr E=>∃t,t=(EU (DM ZG) (Hx a m) s).1/\r= .returned (.bool (decide (s.length<t.length)))/\IL a L k t/\Ft w v (.slice j b.length d) [] t E/\FV o E):=by
    intro s o B hC hR;rw[<-Aa H3];refine Xs (IL a L k) w v j d b B9 HO m (Hx a m) s o (Aa HP) (by have:=Aa FC;omega) (Aa HX) (hR.row (Aa H5) (by decide) (by decide) (by decide)) hC B (λs B=>by have h:=(Aa y).way B;exact⟨h.1,h.2.1,by omega⟩) (λs B=>So m (λi A=>?_));rw[Aa HH]at A;obtain⟨A,M⟩:=aJ.1 A;have Bx:=List.mem_range.1 A;(have AB:i<a.length:=by rw[<-(Aa y).cor.length];exact Bx);refine⟨AB,(Aa y).steps (Aa R) B Bx AB ?_⟩;rw[<-Hv (Aa y).cor AB];simpa using M
   have HT:Hid (∀s,IL a L k s->((EU (DM ZG) (Hx a m) s).2=false->(EU (DM ZG) (Hx a m) s).1=s/\IL a L (k+1) s)/\((EU (DM ZG) (Hx a m) s).2=true->s.length<(EU (DM ZG) (Hx a m) s).1.length)):=by
    intro s B;have h:=(Aa y).pass.grow (al:=ZG) (λc _ s=>Gy (Al c) s) (Aa R) (n:=k) (ds:=Hx a m) (λc=>by rw[Aa HH];exact VJ (Aa y).cor c) B;exact⟨h.2.1,h.2.2.1⟩
   clear O P HN hv EY T;go_wp2_with fail
   go_loopg [] (7000-s.length) (λH8 wq=>∃(s:List Aj),H8=7000-s.length/\Hid (IL a L k s)/\Hid (Ft w v (.slice j b.length d) [] s wq)/\Hid (FV w2 wq))
   case atStart=>exact⟨s,rfl,D,K,F⟩
   case round=>
    clear D K F;obtain⟨s,HL,D,K,F⟩:=hrel;have H2:=Ab HL;clear HL;have HM:=Ab (Aa HU s wr (Aa D) (Aa K) (Aa F));(go_wp2_with fail);refine(Aa HM).mono ?_;rintro _ w5 ⟨t,X,rfl,Ha,HD,BT⟩;have JJ:=Ab X;have BA:=Ab Ha;have CC:=Ab HD;have CL:=Ab ((Aa F).trans BT);have Y:=Aa HT s (Aa D);rw[<-X]at Y;have HV:=Ab Y;clear HM X Ha HD BT Y;by_cases C:s.length<t.length
    ·have I:decide (s.length<t.length)=true:=cO C;rw[I];have H4:=Ab C;clear I C;go_wp2_with fail
     go_roundg (7000-t.length)
     case measure=>
      have J:=((Aa y).way (Aa BA)).2.2;have h2:=Aa H4;have h3:=Aa H2;omega
     case rel=>exact⟨t,rfl,BA,CC,CL⟩
    ·have I:decide (s.length<t.length)=false:=dM C;rw[I];have HE:Hid (t=s/\IL a L (k+1) s):=by
      have h:=Aa HV;cases M:(EU (DM ZG) (Hx a m) s).2 with
      |true=>exact absurd (h.2 M) C
      |false=>exact h.1 M
     have H7:Hid (Ft w v (.slice j b.length d) [] s w5):=by
      have h:=Aa CC;rw[(Aa HE).1]at h;exact h
     clear I C;go_wp2_with fail
     go_roundg (u.length-(k+1))
     case measure=>have:=Aa HG;omega
     case rel=>exact⟨k+1,s,by go_num,by omega,rfl,(Aa HE).2,H7,CL⟩
  ·(have H:k=u.length:=by omega);(have HZ:Hid (IL a L u.length s):=by have h:=Aa D;rw[H]at h;exact h);clear H;go_wp2;go_ret;refine⟨v,s,L,u.length,rfl,Aa K,Aa R,Aa HZ,λc U=>?_⟩;obtain⟨i,A,rfl⟩:=aZ U;have J:=(Aa FF).top i (by rw[(Aa y).cor.length];exact A);rw[Hv (Aa y).cor A]at J;exact J
def Zp(lad:Option Addr)(lcp:Nat)(pcs:List Da)(rcs:List Bf)(w:World)(r:Ending)(w':World):Prop:=∃(cb:Nat) (s:List Aj) (L:cL->Nat) (N:Nat),r= .returned (.pointer (some ⟨cb,1,none⟩))/\Ft w cb (.slice lad pcs.length lcp) [] s w'/\Dt rcs L/\IL rcs L N s/\∀c∈rcs,L c.head.name<N
theorem Rr(c:Option Addr)(b:Nat)(a:List Da)(d:List Bf)(w:World)(g:Dv w (.slice c a.length b) a)(k:ME a d):
  Calls prog 41 #[.slice c a.length b] w λr m=>Zp c b a d w r m:=by
 have f:=Ab (OI c b a d w g k);clear g k;go_enter func41,ntmps41;go_wp2_with fail
 refine(Aa f).mono ?_;rintro _ n ⟨e,s,L,N,rfl,j,h,l,i⟩;have o:Hid (Zp c b a d w (.returned (.pointer (some ⟨e,1,none⟩))) n):=⟨e,s,L,N,rfl,j,h,l,i⟩;clear f j h l i;go_wp2;go_ret;exact Aa o
