import Derived.Test.YtoihbhenbmffcaaGreatDoorYBK
import Derived.Test.YtoihbhenbmffcaaGreatDoorYBC
set_option linter.all false
set_option maxHeartbeats 0
namespace Go.Proofs.YtoihbhenbmffcaaGreatDoor
open Go.RowKit Go.Proofs.Tryz
structure VI(body:List Bg)(s:List Ah):Prop where
 lits:∀x∈body,CN x
 safe:∀x∈body,∀t∈Bm x,Fq body t
 fit:Vy s body
 canon:∀f∈s,A4 f
def A1(body:List Bg):List UInt8:=CO [] (body.flatMap Bm)
def EO(vs:List UInt8)(e:List cR):List cR:=vs.map (Lv e)
theorem R4(a:List Bg):(A1 a).Nodup:=(DD (a.flatMap Bm) [] dW).2.1
theorem Ht{b:List Bg}{v:UInt8}:v∈A1 b↔v≠0/\∃x∈b,∃t∈Bm x,t.v=v:=by
 unfold A1;rw[(DD (b.flatMap Bm) [] dW).2.2];constructor
 .rintro (h|⟨h,t,a,e⟩)
  .cases h
  .obtain⟨x,c,a⟩:=cO.1 a;exact⟨h,x,c,t,a,e⟩
 .rintro ⟨h,x,c,t,a,e⟩;exact Or.inr ⟨h,t,cO.2 ⟨x,c,a⟩,e⟩
theorem VI.fl{a:List Bg}{s:List Ah}(h:VI a s):∀x∈a,J5 x:=λx b=>(h.lits x b).ze
theorem VI.vars{b:List Bg}{s:List Ah}(h:VI b s):∀v∈A1 b,DH v/\∃x∈b,(x.kind==97)=true/\∃u∈x.A.args,u.v=v:=by
 intro v f;obtain⟨c,x,e,t,d,rfl⟩:=Ht.1 f;refine⟨?_,?_⟩
 .rcases h.fl x e t d with a|a
  .exact absurd a.1 c
  .exact a
 .rcases h.safe x e t d with a|a
  .exact absurd a c
  .exact a
theorem VI.al{a:List Bg}{s:List Ah}(h:VI a s):∀v e,∀t∈IX a s v e,AX t:=λv e t b=>Ho h.canon h.fit v e t ((Fd a s v e t).1 b)
theorem VI.args{a:List Bg}{s:List Ah}(h:VI a s):∀x∈a,(x.kind==97)=true->∀t∈x.A.args,Bz t:=by
 intro x d b t c;refine h.fl x d t ?_;unfold Bm;rw[if_pos (by rw[b];rfl)];exact c
theorem VI.facts{a:List Bg}{s:List Ah}(h:VI a s):∀f∈s,Ku f:=λf b=>(h.canon f b).fl
theorem Oa{a:List Bg}{s:List Ah}(h:VI a s){b:List cR}(q:b∈As (IX a s) a s (A1 a) BX):∃e∈Br a s,EO (A1 a) e=EO (A1 a) b:=by
 obtain⟨y,l,_,p⟩:=BN (λv e t c=>(h.al v e t c).size) (A1 a) BX b rfl (λv j=>(h.vars v j).1) q;have n:∀x∈a,CS (BK (Lj b)) (El (Lj b)) s x=true:=by
  intro x f;have u:DC b (Bm x)=true:=by
   unfold DC;rw[dO];intro t c;have w:(AR b t).size≠0:=by
    by_cases d:t.v=0
    .rcases h.fl x f t c with g|g
     .unfold AR;rw[if_pos d];exact g.2
     .rw[d]at g;exact absurd g.1 (by decide)
    .rw[Fi d];exact p _ (Ht.2 ⟨d,x,f,t,c,rfl⟩)
   cases hE:Ru (AR b t)with
   |false=>rfl
   |true=>exact absurd ((DA _).1 hE) w
  have g:CS (AA b) (AR b) s x=true:=by
   unfold DT at l;have:=(dy.1 l) x f;rw[u,dF]at this;simpa using this
  rw[<-II (e:=b) (σ:=Lj b) (λt c=>(Jr b t).symm)];exact g
 obtain⟨e,o,j⟩:=MS h.facts h.args (Lj b) n (λx f m=>by
  have i:=h.safe x f
  unfold Bm at i
  refine⟨λk t c=>i t ?_,λk=>?_⟩
  .rw[if_pos (by rw[k];simp)];exact c
  .rw[if_neg (by rw[m,k];simp)]at i
   exact⟨i _ (by simp),i _ (by simp)⟩)
 refine⟨e,o,?_⟩;unfold EO;refine du (λv r=>?_);obtain⟨d,x,f,t,c,rfl⟩:=Ht.1 r;rw[<-Fi d,<-Fi d,j t (h.safe x f t c),Jr]
theorem QJ{a:List Bg}{s:List Ah}(h:VI a s){e:List cR}(f:e∈Br a s):∃b∈As (IX a s) a s (A1 a) BX,EO (A1 a) b=EO (A1 a) e:=by
 have j:=Io h.facts h.args f;have c:∀x∈a,CS (BK (Lj e)) (El (Lj e)) s x=true:=by
  intro x k;rw[<-II (e:=e) (σ:=Lj e) (λt l=>(Jr e t).symm)];exact j x k
 obtain⟨b,i,_,d,_⟩:=Gk h.fl (PX (Fd a s) h.fl) c (A1 a) BX (DG.start _) h.vars;refine⟨b,i,?_⟩;unfold EO;refine du (λv g=>?_);rw[d v g];rfl
theorem VI.gn{a:List Bg}{s:List Ah}(h:VI a s){b:List cR}(i:b∈As (IX a s) a s (A1 a) BX):∀v∈A1 a,AX (Lv b v):=by
 intro v c;obtain⟨m,_,_,k⟩:=BN (λv e t g=>(h.al v e t g).size) (A1 a) BX b rfl (λv c=>(h.vars v c).1) i;have j:=GY h.al (A1 a) BX CP.start b i;obtain⟨n,x,o,t,g,rfl⟩:=Ht.1 c;have d:=k _ c;have l:=(h.vars _ c).1;unfold Lv at d⊢;have f:t.v.toNat-65<b.length:=by have:=l.2;omega
 rw[bT,bW f]at d⊢;rcases j.2 _ (bL f)with h1|h1
 .exact absurd h1 d
 .exact h1
theorem Ld{al:UInt8->List cR->List cR}{o:List Bg}{s:List Ah}(n:∀v e,(al v e).Pairwise be)(f:∀v e,∀t∈al v e,AX t):
  ∀(c:List UInt8) (e:List cR),e.length=26->c.Nodup->(∀v∈c,DH v)->(As al o s c e).Pairwise λa b=>Dr (EO c a) (EO c b)=true
 |[],e,he,_,_=>by
  rw[As];split
  .exact List.Pairwise.nil
  .exact List.pairwise_singleton _ _
 |v::c,e,he,hn,hv=>by
  rw[As];split
  .exact List.Pairwise.nil
  .have q:=hv v (by simp);rw[dN]at hn;have k:∀t,∀b∈As al o s c (e.set (v.toNat-65) t),EO (v::c) b=t::EO c b:=by
    intro t b i;obtain⟨_,_,w,_⟩:=BN (λv e t d=>(f v e t d).size) c (e.set (v.toNat-65) t) b (by simp[he]) (λu g=>hv u (by simp[g])) i;unfold EO;rw[cu,w v q hn.1,Jv he q]
   rw[List.pairwise_flatMap];refine⟨λt d=>?_,?_⟩
   .refine(Ld n f c (e.set (v.toNat-65) t) (by simp[he]) hn.2 (λu g=>hv u (by simp[g]))).imp_of_mem ?_;intro a b l i h;rw[k t a l,k t b i,Dr,if_pos (by simp)];exact h
   .refine(n v e).imp_of_mem ?_;intro t u d g j a l b i;rw[k t a l,k u b i,Dr,if_neg,<-GG (f v e t d) (f v e u g)]
    .exact j
    .intro m;rw[DR]at m;subst m;unfold be E2 at j;rw[GG (f v e t d) (f v e t d)]at j;have y:=QX (a:=⟨ByteArray.empty,[t]⟩) (by intro x p;rw[bO]at p;subst p;exact f v e _ d);have r:=LR (Aw t) (Aw t);rw[GG (f v e t d) (f v e t d),(Bq (Aw t) (Aw t)).2 rfl]at r;exact absurd (r.2 j) (by decide)
def Jt(vs:List UInt8)(e:List cR):Ah:=⟨ByteArray.empty,EO vs e⟩
def EU(vs:List UInt8)(s:List Ah)(es:List (List cR)):List Ah:=es.foldl (λs e=>Bp s (Jt vs e)) s
theorem IG(a:List UInt8):∀(b:List (List cR)) (s:List Ah),(∀e∈b,A4 (Jt a e))->E8 s->(∀f∈s,A4 f)->E8 (EU a s b)/\(∀f∈EU a s b,A4 f)/\∀g,g∈EU a s b↔g∈s\/∃e∈b,g=Jt a e
 |[],s,_,hs,hc=>⟨hs,hc,λg=>by simp[EU]⟩
 |e::b,s,he,hs,hc=>by
  obtain⟨l,k,m⟩:=Ex (he e (by simp)) hs hc;obtain⟨j,i,n⟩:=IG a b (Bp s (Jt a e)) (λd c=>he d (by simp[c])) l k;refine⟨j,i,λg=>?_⟩;show g∈EU a (Bp s (Jt a e)) b↔_;rw[n,m];constructor
  .rintro ((h|h)|⟨d,c,h⟩)
   .exact Or.inl h
   .exact Or.inr ⟨e,by simp,h⟩
   .exact Or.inr ⟨d,by simp[c],h⟩
  .rintro (h|⟨d,c,h⟩)
   .exact Or.inl (Or.inl h)
   .rcases bS.1 c with rfl|c
    .exact Or.inl (Or.inr h)
    .exact Or.inr ⟨d,c,h⟩
theorem VI.gq{a:List Bg}{s:List Ah}(h:VI a s){e:List cR}(f:e∈Br a s):A4 (Jt (A1 a) e):=by
 obtain⟨b,i,g⟩:=QJ h f;intro x j;have c:x∈EO (A1 a) b:=by rw[g];exact j
 obtain⟨v,d,rfl⟩:=bV.1 c;exact h.gn i v d
theorem SX{c:List Bg}{s:List Ah}(h:VI c s):EU (A1 c) [] (Br c s)=(As (IX c s) c s (A1 c) BX).map (Jt (A1 c)):=by
 obtain⟨o,n,r⟩:=IG (A1 c) (Br c s) [] (λe d=>h.gq d) List.Pairwise.nil (λf j=>by cases j);refine Qf o ?_ n ?_ ?_
 .unfold E8;rw[dQ];refine(Ld (λv e=>OT (λt q=>Ho h.canon h.fit v e t q)) h.al (A1 c) BX rfl (R4 c) (λv k=>(h.vars v k).1)).imp ?_;intro a b p;unfold Db Jt;rw[if_pos (by simp)];exact p
 .intro f j;obtain⟨b,i,rfl⟩:=bV.1 j;intro x w;obtain⟨v,k,rfl⟩:=bV.1 w;exact h.gn i v k
 .intro g;rw[r];constructor
  .rintro (m|⟨e,d,rfl⟩)
   .cases m
   .obtain⟨b,i,l⟩:=QJ h d;exact bV.2 ⟨b,i,by unfold Jt;rw[l]⟩
  .intro u;obtain⟨b,i,rfl⟩:=bV.1 u;obtain⟨e,d,l⟩:=Oa h i;exact Or.inr ⟨e,d,by unfold Jt;rw[l]⟩
def IT:cR->Bool->List UInt8->List cR->cR
 |t,b,v::vs,x::xs=>IT ((if b then t++⟨#[32]⟩else t)++⟨#[v]⟩++⟨#[61]⟩++x) true vs xs
 |t,_,_,_=>t
def ET(vs:List UInt8):cR->List (List cR)->cR
 |t,[]=>t
 |t,r::l=>ET vs (IT t false vs r++⟨#[10]⟩) l
theorem P4{cs:List A7}{bl:List AY}(h:Ju cs bl=(0,0)):(∀p∈bl,No cs p=false)/\C3 E3 bl<0:=by
 unfold Ju at h;cases hf:bl.find? (No cs)with
 |some p=>rw[hf]at h;simp at h
 |none=>
  rw[hf]at h;simp only at h;refine⟨λp a=>?_,?_⟩
  .rw[dC]at hf;have:=hf p a;simpa using this
  .by_cases b:0<=C3 E3 bl
   .rw[if_pos b]at h;simp at h
   .omega
theorem KJ(p:AY):Bm p.1=Au p:=rfl
theorem Pb{cs:List A7}{bl:List AY}{s:List Ah}(e:DZ cs)(g:∀f∈s,Eg cs f)(k:Ju cs bl=(0,0))(m:∀x∈bl.map Prod.fst,CN x):VI (bl.map Prod.fst) s:=by
 obtain⟨o,n⟩:=P4 k;refine⟨m,λx d t q=>?_,λf a x d j y=>?_,λf a=>(g f a).canon e.prog.gE⟩
 .obtain⟨p,b,rfl⟩:=bV.1 d;have r:=(L7 n).2 p b t (by rw[<-KJ];exact q);exact FM (c:=⟨E3,.slice none 0 0,.slice none 0 0,bl,0⟩) r
 .obtain⟨p,b,rfl⟩:=bV.1 d;obtain⟨c,v,l,w⟩:=(g f a).gi;have i:=e.order.gY c v;rw[<-l,y]at i;have u:=o p b;rcases Kq cs p i rfl with⟨h,_⟩|⟨_,h⟩
  .rw[u]at h;cases h
  .rcases h with h|⟨_,⟨_,_,h,_⟩|⟨h,_⟩⟩
   .unfold KT at h;rw[j]at h;cases h
   .rw[w];omega
   .omega
theorem MJ{cs:List A7}{bl:List AY}(c:Ju cs bl=(0,0)):∀p∈bl,(Au p).length<=2:=by
 intro p a;have b:=(P4 c).1 p a;unfold Au;cases hi:KT p with
 |false=>simp
 |true=>
  rw[if_pos rfl];rcases Kq cs p rfl rfl with⟨h,_⟩|⟨_,h⟩
  .rw[b]at h;cases h
  .rcases h with h|⟨_,⟨_,_,_,h⟩|⟨_,_,_,h⟩⟩
   .rw[hi]at h;cases h
   .omega
   .omega
theorem NR{cs:List A7}{bl:List AY}(b:Ju cs bl=(0,0))(f:bl.length<=3):(A1 (bl.map Prod.fst)).length<=6:=by
 unfold A1;have d:=Tm ((bl.map Prod.fst).flatMap Bm) [];have c:=Oo Bm 2 (bl.map Prod.fst) (λx e=>by
  obtain⟨p,a,rfl⟩:=bV.1 e
  rw[KJ]
  exact MJ b p a)
 rw[bX]at c;rw[cE,cV]at d;omega
theorem X5(bl:List AY):bl.foldl Rz []=A1 (bl.map Prod.fst):=by
 unfold A1;have h:∀(l:List AY) (a:List UInt8),l.foldl Rz a=CO a ((l.map Prod.fst).flatMap Bm):=by
  intro l
  induction l with
  |nil=>intro a;rfl
  |cons p l ih=>
   intro a;rw[cC,ih,cu,cg];unfold Rz CO;rw[cY];rfl
 exact h bl []
theorem UX{cs:List A7}(h:CE cs):(Dd cs).length<=6:=by
 cases cs with
 |nil=>exact b8 _
 |cons c l=>
  have a:=(EZ (h.each l.length (by simp))).2.2.2.2.1;rw[bP (by simp)]at a;exact a
theorem PF{cs:List A7}{x:cR}(h:x∈consts cs):x∈Dd cs:=by
 rw[(K0 cs).mem,(D2 _).2];unfold consts at h;obtain⟨c,e,f⟩:=cO.1 h;obtain⟨t,d,rfl⟩:=bV.1 f;obtain⟨b,a⟩:=cn.1 d;refine cO.2 ⟨c,e,bV.2 ⟨t,cn.2 ⟨?_,a⟩,rfl⟩⟩;unfold F4;exact ep _ b
theorem Kn{cs:List A7}{b:List Bg}{s:List Ah}(m:∀f∈s,Eg cs f)(h:VI b s){e:List cR}(j:e∈Br b s):∀v∈A1 b,Lv e v∈consts cs:=by
 intro v c;obtain⟨_,x,n,i,u,k,d⟩:=h.vars v c;have l:=(Ht.1 c).1;have a:=Io h.facts h.args j x n;unfold CS at a;rw[if_pos i]at a;have g:=(m _ ((Cw _ _).1 a)).args;rw[<-d,<-Fi (by rw[d];exact l)];exact g _ (cm k)
theorem SS{cs:List A7}{a:List Bg}{s:List Ah}(o:DZ cs)(t:∀f∈s,Eg cs f)(h:VI a s)(y:(A1 a).length<=6)(b:List (List cR))(d:∀e∈b,e∈Br a s):(EU (A1 a) [] b).length<=46656:=by
 obtain⟨m,i,r⟩:=IG (A1 a) b [] (λe c=>h.gq (d e c)) List.Pairwise.nil (λf p=>by cases p);have w:=m.nodup i;have n:=LQ (EU (A1 a) [] b) ((Hd (Dd cs) (A1 a).length).map (Ah.mk ByteArray.empty)) w (λg k=>by
  rcases(r g).1 k with l|⟨e,c,rfl⟩
  .cases l
  .refine bV.2 ⟨EO (A1 a) e,?_,rfl⟩
   have q:(EO (A1 a) e).length=(A1 a).length:=by unfold EO;rw[bX]
   rw[<-q]
   refine Mg _ _ (λx u=>?_)
   obtain⟨v,z,rfl⟩:=bV.1 u
   exact PF (Kn t h (d e c) v z))
 rw[bX,KA]at n;have j:=UX o.order;have A:(Dd cs).length^(A1 a).length<=6^6:=da (Nat.pow_le_pow_left j _) (Nat.pow_le_pow_right (by decide) y);have:(6:Nat)^6=46656:=by decide
 omega
theorem Uo{s:cR}(g:s.size<=300){bl:List AY}(e:bl.map Prod.fst=(Be s 0).1)(f:(Be s 0).2.2=false):∀p∈bl,∀t∈Au p,t.v=0->0<t.s.size/\t.s.size<=1000000:=by
 intro p d t a b;have c:=(IL s 0 (b8 _)).2.2 f p.1 (by rw[<-e];exact cm d);unfold Au at a;cases ha:KT p with
 |true=>
  rw[ha]at a;have:=c.atom t (by simpa using a) b;omega
 |false=>
  rw[ha]at a;simp only[bN,if_false,bS,di,or_false]at a;rcases a with rfl|rfl
  .have:=c.left ha b;omega
  .have:=c.right ha b;omega
theorem Wp{cs:List A7}{bl:List AY}{s:List Ah}(F:DZ cs)(hF:Tf cs)(D:∀f∈s,Eg cs f)(B:Ju cs bl=(0,0))(m:VI (bl.map Prod.fst) s)(C:∀p∈bl,∀t∈Au p,t.v=0->0<t.s.size/\t.s.size<=1000000):
  (∀p∈bl,(p.1.kind==97)=true->(∀t∈p.1.A.args,Bz t)/\p.1.A.args.length<=1000)/\
  ∀e∈(bl.map Prod.fst).foldl (Cq s) [BX],∀p∈bl,(p.1.kind==97)=false->PB e p.1:=by
 have i:=MJ B;have n:∀e∈(bl.map Prod.fst).foldl (Cq s) [BX],∀p∈bl,∀t∈Au p,0<(AR e t).size/\(AR e t).size<=1000000:=by
  intro e b p a t g;by_cases j:t.v=0
  .have l:=C p a t g j;unfold AR;rw[if_pos j];exact l
  .obtain⟨_,_,_,_,z⟩:=Dn m.facts (bl.map Prod.fst) [BX] (λe b=>by simp at b;rw[b];rfl) m.args e b;rcases m.safe p.1 (cm a) t (by rw[KJ];exact g)with l|⟨y,hy,k,u,hu,huv⟩
   .exact absurd l j
   .have l:=(D _ (z y hy k).1).args (AR e u) (cm hu);have i:=G4 hF _ l;(have c:AR e u=AR e t:=by unfold AR;rw[huv,if_neg j,if_neg j]);rw[c]at i;exact i
 refine⟨λp a k=>⟨m.args p.1 (cm a) k,?_⟩,λe b p a k=>?_⟩
 .have c:=i p a;unfold Au KT at c;rw[k]at c;simp at c;omega
 .have d:=m.lits p.1 (cm a);have c:=i p a;refine⟨λq=>?_,λo=>?_⟩
  .unfold CN at d;rw[if_pos q]at d;(have h:Au p=p.1.A.args:=by unfold Au KT;rw[q];rfl);rw[h]at c;refine⟨λt g=>(d.args t g).fit,by omega,⟨by simp[AA];omega,λx E=>?_⟩⟩;obtain⟨t,g,rfl⟩:=bV.1 E;exact n e b p a t (by rw[h];exact g)
  .unfold CN at d;rw[if_neg (by rw[o];simp)]at d;(have h:Au p=[p.1.L,p.1.R]:=by unfold Au KT;rw[o];rfl);have r:=n e b p a p.1.L (by rw[h];simp);have w:=n e b p a p.1.R (by rw[h];simp);exact⟨d.1.fit,d.2.1.fit,r.1,r.2,w.1,w.2⟩
