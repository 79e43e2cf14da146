import Derived.Test.YtoihbhenbmffcaaGreatDoorYBP
import Derived.Test.YtoihbhenbmffcaaGreatDoorYBM
import Derived.Test.YtoihbhenbmffcaaGreatDoorYBN
set_option linter.all false
set_option maxHeartbeats 0
namespace Go.Proofs.YtoihbhenbmffcaaGreatDoor
open Go.RowKit Go.Proofs.Tryz
structure L1(pcs:List C0)(rcs:List A7):Prop where
 gh:F2 Pj pcs rcs
 pass:DZ rcs
 fl:∀c∈pcs,I6 c.pc
 names:∀c∈pcs,c.hn.size<=1000000/\∀p∈c.db,p.1.an.size<=1000000
theorem L1.len{a:List C0}{b:List A7}(h:L1 a b):a.length<=12:=by rw[h.gh.length];exact h.pass.order.small.1
theorem L1.fit{a:List C0}{d:List A7}(h:L1 a d){c:C0}(b:c∈a):bi c:=(OY (h.fl c b)).1
theorem L1.litW{n:List C0}{f:List A7}(h:L1 n f){c:C0}{r:A7}(y:c∈n)(j:r∈f)(v:Pj c r):∀x∈Am r,Np (Kj x):=by
 intro x o;obtain⟨q,g,rfl⟩:=bV.1 o;obtain⟨p,s,i⟩:=v.lits.mem q g;have a:=h.pass.lits r j q.1 o;have e:=(h.pass.order.small.2 r j).2.2 q g;have z:q.1.A.args.length<=2:=by
  unfold Bt at e;have:=of_decide_eq_false e;omega
 have m:=(h.fl c y).lits p.1 (by simp only[C0.pc];exact cm s);rw[i.eq]at m;unfold CN at a;by_cases d:(q.1.kind==97||q.1.kind==33)=true
 .rw[if_pos d]at a;have l:=m.bare (by rw[GO];exact d);refine⟨by show(q.1.A.args.map ct).length<=1000;rw[bX];omega,λt b=>?_,by rw[l.1];exact Or.inl rfl,by rw[l.2];exact Or.inl rfl⟩;obtain⟨u,w,rfl⟩:=bV.1 b;exact IU (a.args u w)
 .rw[if_neg d]at a;have k:=i.plain (by unfold KT;simpa using d);refine⟨by show(q.1.A.args.map ct).length<=1000;rw[k];simp,λt b=>?_,IU a.1,IU a.2.1⟩;have b:t∈q.1.A.args.map ct:=b;rw[k]at b;simp at b
theorem L1.gi{e:List C0}{b:List A7}(h:L1 e b){L:cR->Nat}{n:Nat}{s:List Ah}(a:I7 b L n s):E8 s/\(∀f∈s,A4 f)/\s.length<=6912:=by
 have j:=a.len h.pass.prog.gE;have i:=Tz h.pass.order.small.1 (λc g=>(h.pass.order.small.2 c g).2.1);exact⟨a.en,λf d=>(a.gQ f d).canon h.pass.prog.gE,by omega⟩
theorem L1.cl{e:List C0}{b:List A7}(h:L1 e b){L:cR->Nat}{n:Nat}{s:List Ah}(m:I7 b L n s){a:Nat}(k:a<e.length)(j:a<b.length):Pp e[a] b[a] s:=by
 have l:=h.gh.at a k j;have i:e[a]∈e:=bL k;have c:b[a]∈b:=bL j;have p:=h.gi m;refine⟨l,(h.fit i).pc,(h.fit i).gC,λx g=>⟨h.pass.lits _ c x g,h.litW i c l x g⟩,TC h.pass.prog.fl c (h.pass.lits _ c),h.pass.gE _ c,λf r x g q v=>?_,p.2.1,by omega⟩;obtain⟨d,o,t,u⟩:=(m.gQ f r).gi;rw[u];exact h.pass.order.ar3 d o _ c x g q (by rw[<-t];exact v)
theorem L1.steps{l:List C0}{a:List A7}(h:L1 l a){L:cR->Nat}(C:DE a L){n:Nat}{s:List Ah}(i:I7 a L n s){c:Nat}(q:c<l.length)(p:c<a.length)(E:L a[c].head.name=n):VQ l (I7 a L n) c a[c] s:=by
 have g:=h.cl i q p;have u:a[c]∈a:=bL p;have r:∀v e,∀t∈IX (Am a[c]) s v e,t.size≠0:=λv e t k=>(g.al v e t k).size
 have o:∀f∈Hj a[c] s,f∉s/\∃σ,(∀x∈Am a[c],CS (BK σ) (El σ) s x=true)/\f=BK σ a[c].head:=λf d=>QS g.parts r d
 have z:∀j,I7 a L n (((Hj a[c] s).take j).foldl Bp s):=λj=>(JG (h.pass.other C) i u E ((Hj a[c] s).take j) s (λf d=>(o f (d9 d)).2) i (λf d=>d) (λf d=>Or.inl d)).1
 have m:∀f∈Hj a[c] s,A4 f/\f.args.length<=1000:=by
  intro f d;unfold Hj Ps at d;obtain⟨b,A,rfl⟩:=bV.1 d;have G:=NE g.al g.parts g.head (cn.1 A).1;refine⟨GX G,?_⟩;have:=(h.pass.order.small.2 _ u).2.1;unfold AA;simp only[bX];omega
 have y:=DD a[c].head.args [] dW;have w:(Hj a[c] s).Nodup:=Wt (λv e=>Qo g.canon g.fitA v e) r g.parts y.2.1 (λv F=>by
  rcases(y.2.2 v).1 F with h|⟨_,t,k,e⟩
  .simp at h
  .exact⟨t,k,e⟩)
 refine⟨q,g,w,λf d=>⟨(o f d).1,(m f d).1,(m f d).2⟩,?_,z⟩;have D:=Tp (Hj a[c] s) s i.en g.canon w (λf d=>⟨(o f d).1,(m f d).1⟩);have B:=(h.gi (z (Hj a[c] s).length)).2.2;rw[eN,D]at B;omega
def Iv(rcs:List A7)(ns:List Nat):List A7:=ns.filterMap λi=>rcs[i]?
theorem Tj{b:List A7}{R:Nat->A7->Prop}:∀(a:List Nat),(∀i∈a,∃h:i<b.length,R i b[i])->F2 R a (Iv b a)
 |[],_=>F2.nil
 |i::a,h=>by
  obtain⟨f,d⟩:=h i (by simp);have ih:=Tj a (λj c=>h j (by simp[c]));have e:Iv b (i::a)=b[i]::Iv b a:=by
   unfold Iv;rw[List.filterMap_cons,bW f]
  rw[e];exact F2.cons d ih
theorem It{a:List C0}{b:List A7}(h:F2 Pj a b){i:Nat}(c:i<b.length):Ge a i=b[i].head.name:=by
 have d:i<a.length:=by rw[h.length];exact c
 have:=(h.at i d c).hn;unfold Ge;rw[bW d];exact this
theorem WJ{b:List C0}{d:List A7}(h:F2 Pj b d){L:cR->Nat}{n:Nat}(c:A7):c∈Iv d ((List.range b.length).filter λi=>L (Ge b i)==n)↔c∈d/\L c.head.name=n:=by
 unfold Iv;rw[dY];constructor
 .rintro ⟨i,a,e⟩;obtain⟨a,g⟩:=cn.1 a;obtain⟨f,rfl⟩:=fq.1 e;rw[It h f]at g;exact⟨bL f,by simpa using g⟩
 .rintro ⟨j,k⟩;obtain⟨i,a,rfl⟩:=cN j;refine⟨i,cn.2 ⟨List.mem_range.2 (by rw[h.length];exact a),?_⟩,bW a⟩;rw[It h a];simpa using k
theorem Gg.parts{w w':World}(h:Gg w w'){base:Nat}{c:Value}{b:List Ns}(a:Dx w base c b):Dx w' base c b:=⟨h.row a.row (by decide) (by decide) (by decide),λp d=>h.row (a.each p d) (by decide) (by decide) (by decide),a.apart⟩
def bc(lad:Option Addr)(lcp:Nat)(pcs:List C0)(rcs:List A7)(w:World)(r:Ending)(w':World):Prop:=∃(cb:Nat) (s:List Ah) (L:cR->Nat) (N:Nat),r=.returned (.pointer (some ⟨cb,0,none⟩))/\FR w cb (.slice lad pcs.length lcp) [] s w'/\DE rcs L/\I7 rcs L N s/\∀c∈rcs,L c.head.name<N
set_option maxRecDepth 100000
theorem Pu(j:Option Addr)(d:Nat)(b:List C0)(a:List A7)(w:World)(Z:C9 w (.slice j b.length d) b)(z:L1 b a):
  Calls prog 74 #[.slice j b.length d] w λr E=>bc j d b a w r E:=by
 have HP:=z.len;have AH:∀x,B0 a 6 x<=6:=Pi a 6;have FP:DM a (B0 a 6)<=100000:=by
  have J:∀(l:List A7),DM l (B0 a 6)<=l.length*6:=λl=>by
   induction l with
   |nil=>simp[DM]
   |cons c l ih=>
    (have e:DM (c::l) (B0 a 6)=B0 a 6 c.head.name+DM l (B0 a 6):=by unfold DM;simp);have:=AH c.head.name;rw[e,bU,dS];omega
  have h2:=J a;have h3:=z.pass.order.small.1;omega
 have FC:Hid (∀o,Ac [] w o->Calls prog 123 #[.slice j b.length d] o λr E=>V8 b a (B0 a 6) o r E):=λo hk=>UN j d b a o (B0 a 6) (Z.kept hk) z.gh (by omega) (λc U=>(z.fit U).pc.lits) z.names z.pass.prog.lay (λx=>by have:=AH x;omega) FP
 have HO:=Ab Z;have y:=Ab z;have EY:=Ab HP;have G:Hid (FR w w.heap.size (.slice j b.length d) [] [] (w.alloc (.cells [.slice j b.length d,.slice none 0 0,.slice none 0 0].toArray 139))):=⟨(Ac.refl [] w).alloc _,bZ _,none,0,[],none,0,[],AE.new w _ 139,⟨ck _ _ _ _,λp hp=>by simp at hp⟩,⟨rfl,List.Pairwise.nil,λf hf=>by simp at hf⟩,ck _ _ _ _,λq hq=>by simp[Value.ownBlock]at hq,λq hq=>by simp⟩;obtain⟨v,HD⟩:∃v,w.heap.size=v:=⟨_,rfl⟩;clear Z z AH FP;go_enter func74,ntmps74;go_wp2_with fail
 have S:=Ab (Aa G).kept;change Calls _ _ _ (w.alloc (.cells [.slice j b.length d,.slice none 0 0,.slice none 0 0].toArray 139)) _;generalize w.alloc (.cells [.slice j b.length d,.slice none 0 0,.slice none 0 0].toArray 139)=w1 at G S⊢;rw[HD]at G;clear HD;refine(Aa FC w1 (Aa S)).mono ?_;rintro _ w2 ⟨ad,cp,u,L,rfl,N,W,CL,HX,k2⟩;have FL:=Ab ((Aa G).grow k2);have Ha:=Ab (Dx.mk (Ak N.row (b8 _)) (λp hp=>Ak (N.each p hp) (b8 _)) N.apart);have FA:=Ab W;have R:=Ab CL;have Jx:=W.len;clear G S FC N W CL HX k2;go_wp2_with fail
 go_loopg [12] u.length (λgk i wr=>∃(k:Nat) (s:List Ah),i=.int .i64 k/\k<=u.length/\gk=u.length-k/\Hid (I7 a L k s)/\Hid (FR w v (.slice j b.length d) [] s wr)/\Hid (Gg w2 wr))
 case atStart=>exact⟨0,[],rfl,by omega,rfl,I7.start _ _,FL,Gg.refl _⟩
 case round=>
  clear FL;obtain⟨k,s,rfl,hk,HJ,D,K,F⟩:=hrel;have HG:=Ab HJ;clear HJ;by_cases V:k<u.length
  .obtain⟨g,KK,BT,HN,H,hv,FF⟩:=Qg ((Aa F).parts (Aa Ha)) k V;simp only[bK]at H;obtain⟨rfl,-,rfl⟩:=H;have O:=(Aa Ha).each _ (bL V);rw[hv]at O;have P:=(Aa FA).lists k V;obtain⟨m,ES⟩:∃m,u[k].1=m:=⟨_,rfl⟩;rw[ES]at O P FF;have H4:=Ab O;have HF:=Ab P;have HM:m.length<=1000:=by
    rw[P];have:=dw (λi=>L (Ge b i)==k) (List.range b.length);rw[List.length_range]at this;have:=Aa EY;omega
   have HW:=Ab HM;obtain⟨Q,T⟩:∃Q,m.length=Q:=⟨_,rfl⟩;have H2:=Ab T;rw[T]at FF;(have JJ:(0:Int)<=(k:Int):=by omega);(have Ix:(k:Int)<(u.length:Int):=by omega);have HT:Hid (∀s o,I7 a L k s->FR w v (.slice j b.length d) [] s o->Gg w2 o->Calls prog 124 #[.pointer (some ⟨v,0,none⟩),.slice BT Q HN] o λr E=>∃t,t=(Fh (DX aS) (Iv a m) s).1/\r=.returned (.bool (decide (s.length<t.length)))/\I7 a L k t/\FR w v (.slice j b.length d) [] t E/\Gg o E):=by
    intro s o B hC hR;rw[<-Aa H2];refine Yk (I7 a L k) w v j d b BT HN m (Iv a m) s o (Aa HO) (by have:=Aa EY;omega) (Aa HW) (hR.row (Aa H4) (by decide) (by decide) (by decide)) hC B (λs B=>by have h:=(Aa y).gi B;exact⟨h.1,h.2.1,by omega⟩) (λs B=>Tj m (λi A=>?_));rw[Aa HF]at A;obtain⟨A,M⟩:=cn.1 A;have AT:=List.mem_range.1 A;(have AB:i<a.length:=by rw[<-(Aa y).gh.length];exact AT);refine⟨AB,(Aa y).steps (Aa R) B AT AB ?_⟩;rw[<-It (Aa y).gh AB];simpa using M
   have HS:Hid (∀s,I7 a L k s->((Fh (DX aS) (Iv a m) s).2=false->(Fh (DX aS) (Iv a m) s).1=s/\I7 a L (k+1) s)/\((Fh (DX aS) (Iv a m) s).2=true->s.length<(Fh (DX aS) (Iv a m) s).1.length)):=by
    intro s B;have h:=(Aa y).pass.grow (al:=aS) (λc _ s=>Fd (Am c) s) (Aa R) (n:=k) (ds:=Iv a m) (λc=>by rw[Aa HF];exact WJ (Aa y).gh c) B;exact⟨h.2.1,h.2.2.1⟩
   clear O P HM hv ES T;go_wp2_with fail
   go_loopg [] (7000-s.length) (λH7 wq=>∃(s:List Ah),H7=7000-s.length/\Hid (I7 a L k s)/\Hid (FR w v (.slice j b.length d) [] s wq)/\Hid (Gg w2 wq))
   case atStart=>exact⟨s,rfl,D,K,F⟩
   case round=>
    clear D K F;obtain⟨s,HK,D,K,F⟩:=hrel;have H1:=Ab HK;clear HK;have HL:=Ab (Aa HT s wr (Aa D) (Aa K) (Aa F));(go_wp2_with fail);refine(Aa HL).mono ?_;rintro _ w5 ⟨t,X,rfl,Go,HB,BA⟩;have IA:=Ab X;have Bx:=Ab Go;have B9:=Ab HB;have CC:=Ab ((Aa F).trans BA);have Y:=Aa HS s (Aa D);rw[<-X]at Y;have HU:=Ab Y;clear HL X Go HB BA Y;by_cases C:s.length<t.length
    .have I:decide (s.length<t.length)=true:=fe C;rw[I];have H3:=Ab C;clear I C;go_wp2_with fail
     go_roundg (7000-t.length)
     case measure=>
      have J:=((Aa y).gi (Aa Bx)).2.2;have h2:=Aa H3;have h3:=Aa H1;omega
     case rel=>exact⟨t,rfl,Bx,B9,CC⟩
    .have I:decide (s.length<t.length)=false:=fZ C;rw[I];have HE:Hid (t=s/\I7 a L (k+1) s):=by
      have h:=Aa HU;cases M:(Fh (DX aS) (Iv a m) s).2 with
      |true=>exact absurd (h.2 M) C
      |false=>exact h.1 M
     have H6:Hid (FR w v (.slice j b.length d) [] s w5):=by
      have h:=Aa B9;rw[(Aa HE).1]at h;exact h
     clear I C;go_wp2_with fail
     go_roundg (u.length-(k+1))
     case measure=>have:=Aa HG;omega
     case rel=>exact⟨k+1,s,by go_num,by omega,rfl,(Aa HE).2,H6,CC⟩
  ·(have H:k=u.length:=by omega);(have HY:Hid (I7 a L u.length s):=by have h:=Aa D;rw[H]at h;exact h);clear H;go_wp2;go_ret;refine⟨v,s,L,u.length,rfl,Aa K,Aa R,Aa HY,λc U=>?_⟩;obtain⟨i,A,rfl⟩:=cN U;have J:=(Aa FA).top i (by rw[(Aa y).gh.length];exact A);rw[It (Aa y).gh A]at J;exact J
def ax(lad:Option Addr)(lcp:Nat)(pcs:List C0)(rcs:List A7)(w:World)(r:Ending)(w':World):Prop:=∃(cb:Nat) (s:List Ah) (L:cR->Nat) (N:Nat),r=.returned (.pointer (some ⟨cb,1,none⟩))/\FR w cb (.slice lad pcs.length lcp) [] s w'/\DE rcs L/\I7 rcs L N s/\∀c∈rcs,L c.head.name<N
theorem Sn(c:Option Addr)(b:Nat)(a:List C0)(d:List A7)(w:World)(g:C9 w (.slice c a.length b) a)(k:L1 a d):
  Calls prog 41 #[.slice c a.length b] w λr m=>ax c b a d w r m:=by
 have f:=Ab (Pu c b a d w g k);clear g k;go_enter func41,ntmps41;go_wp2_with fail
 refine(Aa f).mono ?_;rintro _ n ⟨e,s,L,N,rfl,j,h,l,i⟩;have o:Hid (ax c b a d w (.returned (.pointer (some ⟨e,1,none⟩))) n):=⟨e,s,L,N,rfl,j,h,l,i⟩;clear f j h l i;go_wp2;go_ret;exact Aa o
theorem J6{w:World}{base size n:Nat}{e t:TypeId}{v:Value}{k cs:List Value}{N:Nat}(h:w.ownsRow base e size v n k)(j:AE w N cs t)(f:(e==t)=false):∀i,v.ownBlock=some i->i∉[N]:=by
 intro i b d;rw[bO]at d;subst d;rcases h.2 with⟨rfl,_⟩|⟨g,c,l,rfl,_,a,_⟩
 .simp[Value.ownBlock]at b
 .simp only[Value.ownBlock,bR]at b;subst b;unfold AE at j;rw[j]at a;simp only[bR,Obj.cells.injEq]at a;rw[a.2.1]at f;simp at f
theorem Vo{w:World}{a b:Nat}{cs ds:List Value}{e t:TypeId}(h:AE w a cs e)(c:AE w b ds t)(f:(e==t)=false):a∉[b]:=by
 intro d;rw[bO]at d;subst d;unfold AE at h c;rw[c]at h;simp only[bR,Obj.cells.injEq]at h;rw[h.2.1]at f;simp at f
theorem KQ.zF{w w':World}{d:Value}{b:List Gm}{N:Nat}{cs:List Value}(h:KQ w d b)(c:AE w N cs 145)(k:Ac [N] w w'):KQ w' d b:=
 ⟨Al h.row k (J6 h.row c (by rfl)),λp a=>⟨Al (h.each p a).1 k (J6 (h.each p a).1 c (by rfl)),(h.each p a).2⟩⟩
theorem BI.zF{w w':World}{base:Nat}{v:Value}{c:List JF}{N:Nat}{cs:List Value}(h:BI w base v c)(b:AE w N cs 145)(k:Ac [N] w w'):BI w' base v c:=
 ⟨Al h.row k (J6 h.row b (by rfl)),λp a=>⟨Al (h.each p a).1 k (J6 (h.each p a).1 b (by rfl)),(h.each p a).2⟩⟩
structure aY(w:World)(bv:Value)(db:List JF)(body:List Bg):Prop where
 at_:BI w 0 bv db
 map:db.map Prod.fst=body.map Kj
 fl:∀p∈db,Gf p.1
 len:db.length<=3
theorem UR{M:List Nat}{w w':World}(k:Ac M w w'){b o:Nat}{v:Value}(h:w.cell? ⟨b,o,none⟩=some v)(d:b∉M):w'.cell? ⟨b,o,none⟩=some v:=by
 unfold World.cell? at h⊢;have c:b<w.heap.size:=by
  rcases Nat.lt_or_ge b w.heap.size with a|a
  .exact a
  .simp[eL a]at h
 rw[k.block b c d];exact h
theorem aY.gC{w:World}{c:Value}{a:List JF}{b:List Bg}(h:aY w c a b):AU a=(b.flatMap Bm).map ct:=by
 unfold AU;have e:a.flatMap (λp=>AI p.1)=(a.map Prod.fst).flatMap AI:=by rw[List.flatMap_map]
 rw[e,h.map,List.flatMap_map,fu]
 congr 1
 funext x
 exact N1 x
theorem aY.vars{w:World}{c:Value}{b:List JF}{a:List Bg}(h:aY w c b a):C4 (AU b)=Cm (A1 a):=by
 rw[h.gC,Pa];rfl
theorem aY.litW{w:World}{q:Value}{g:List JF}{i:List Bg}(h:aY w q g i)(n:∀x∈i,CN x):∀x∈i,Np (Kj x):=by
 intro x l;obtain⟨p,f,m⟩:∃p∈g,p.1=Kj x:=by
  have:Kj x∈g.map Prod.fst:=by rw[h.map];exact cm l
  obtain⟨p,f,e⟩:=bV.1 this;exact⟨p,f,e⟩
 have d:=h.fl p f;rw[m]at d;have a:=n x l;unfold CN at a;by_cases b:(x.kind==97||x.kind==33)=true
 .rw[if_pos b]at a;have k:=d.bare (by rw[GO];exact b);refine⟨by have:=d.le;omega,λt c=>?_,by rw[k.1];exact Or.inl rfl,by rw[k.2];exact Or.inl rfl⟩;obtain⟨u,o,rfl⟩:=bV.1 c;exact IU (a.args u o)
 .rw[if_neg b]at a;have j:=d.plain (by rw[GO];simpa using b);refine⟨by rw[j];simp,λt c=>?_,IU a.1,IU a.2.1⟩;rw[j]at c;simp at c
theorem aY.fit{w:World}{g:Value}{a:List JF}{f:List Bg}(h:aY w g a f):(∀p∈a,0<(AI p.1).length/\(AI p.1).length<=1000)/\(AU a).length<=90000:=by
 have c:∀p∈a,0<(AI p.1).length/\(AI p.1).length<=1000:=λp b=>by
  have d:=h.fl p b;have:=d.le;unfold AI;split
  .rename_i e;exact⟨d.some e,by omega⟩
  .exact⟨by simp,by simp⟩
 refine⟨c,?_⟩;have i:=He (λp b=>(c p b).2);have:=h.len;omega
theorem PH(k n:Nat)(F:Option Addr)(G:Nat)(q:List Gm)(i:Option Addr)(h:Nat)(b:List JF)(a:List Bg)(s:List Ah)(w:World)(N:Nat)(cs:List Value)
  (V:AE w N cs 145) (AT:k∉[N]) (W:w.cell? ⟨k,n,none⟩=some (.slice F q.length G)) (hF:KQ w (.slice F q.length G) q) (e:aY w (.slice i b.length h) b a) (P:Ei q s) (AB:s.length<=10000) (o:VI a s) (h6:(A1 a).length<=6):
  Calls prog 94 #[.pointer (some ⟨k,n,none⟩),.slice i b.length h] w λr c=>∃l E,r=.returned (.func (.func 140) #[] #[.pointer (some ⟨E,0,none⟩)])/\AE c E [.pointer (some ⟨l,0,none⟩)] 233/\w.heap.size<=E/\(∀d,Ac [N] c d->Yl d l a s (A1 a))/\Ac [] w c:=by
 obtain⟨BA,Q⟩:=e.fit;have I:=Ab (NZ i h b w e.at_ (by have:=e.len;omega) BA);have H:Hid (∀z D d,d.ownsRow w.heap.size 215 2 (.slice z (AU b).length D) (AU b).length ((AU b).flatMap Ao)->Calls prog 138 #[.slice z (AU b).length D] d λr c=>∃A B,r=.returned (.slice A (A1 a).length B)/\c.ownsRow d.heap.size 21 1 (.slice A (Cm (A1 a)).length B) (Cm (A1 a)).length ((Cm (A1 a)).flatMap AK)/\Ac [] d c):=by
  intro z D d C;refine(L6 z D _ _ d C Q).mono ?_;rintro r c ⟨A,B,rfl,y,t⟩;rw[e.vars]at y;exact⟨A,B,by rw[e.vars,FI],y,t⟩
 have AH:Hid (∀l f g c,Ac [] w c->w.heap.size<=l->AE c l [.pointer (some ⟨k,n,none⟩),.slice i b.length h,.slice f (A1 a).length g] 237->c.ownsRow 0 21 1 (.slice f (Cm (A1 a)).length g) (Cm (A1 a)).length ((Cm (A1 a)).flatMap AK)->∀d,Ac [N] c d->Yl d l a s (A1 a)):=by
  intro l f g c m EK L C d p;have u:=V.kept m (by simp);have B9:a.length=b.length:=by have:=congrArg List.length e.map;simpa using this.symm
  have CC:=e.len;refine⟨⟨k,n,i,h,b,f,g,F,G,q,⟨?_,?_,(hF.kept m).zF u p⟩,(e.at_.kept m (by simp)).zF u p,e.map,Al C p (J6 C u (by rfl)),P⟩,AB,λx T=>⟨o.lits x T,e.litW o.lits x T⟩,by omega,by omega,o.fit,λv hv=>(o.vars v hv).1⟩
  .rw[FI];exact L.kept p (Vo L u (by rfl))
  .exact UR p (m.cellAt W) AT
 clear hF e P o V W;generalize(AU b)=BT at I H Q;go_enter func94,ntmps94;go_wp2_with fail
 refine(Aa I).mono ?_;rintro _ X ⟨Ax,Z,rfl,R,J⟩;have K:=Ab (Aa H Ax Z X R);have M:=Ab J;clear I H R J;go_wp2_with fail
 refine(Aa K).mono ?_;rintro _ j ⟨f,g,rfl,S,U⟩;have Y:=Ab S;have O:=Ab ((Aa M).trans U);have AO:=(Aa O).size;clear K M S U;go_wp2;go_ret;have y:=(AE.new j [.pointer (some ⟨k,n,none⟩),.slice i b.length h,.slice f (A1 a).length g] 237).alloc (.cells #[.pointer (some ⟨j.heap.size,0,none⟩)] 233);have t:=AE.new (j.alloc (.cells #[.pointer (some ⟨k,n,none⟩),.slice i b.length h,.slice f (A1 a).length g] 237)) [.pointer (some ⟨j.heap.size,0,none⟩)] 233;rw[cD]at t;have m:=((Aa O).alloc (.cells #[.pointer (some ⟨k,n,none⟩),.slice i b.length h,.slice f (A1 a).length g] 237)).alloc (.cells #[.pointer (some ⟨j.heap.size,0,none⟩)] 233);exact⟨j.heap.size,j.heap.size+1,rfl,t,by omega,Aa AH j.heap.size f g _ m AO y (Ak (((Aa Y).alloc _).alloc _) (b8 _)),m⟩
