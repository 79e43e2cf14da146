import Derived.Test.YtoihbhenbmffcaaGreatDoorVAU
set_option linter.all false
set_option maxHeartbeats 0
open List renaming length->Z,toArray->D6,replicate->NP
open Option renaming none->Y,some->V
open Go.Value renaming slice->U,int->X,string->O,pointer->Gi,agg->Ms
open Go.IntKind renaming i64->J
open Bool renaming true->Cm
open Go.Ending renaming returned->G3
open Or renaming inl->Hd,inr->Hf
open Go renaming World->Hq
open Go.RowKit renaming Hid->JR
open Go.World renaming cell?->Lc
open Go.Act renaming put->OD
namespace Go.Proofs.YtoihbhenbmffcaaGreatDoor
open Go.RowKit Go.Proofs.Tryz
variable{w v u:Hq}{n m:Nat}{f:QC Af}{P:Program}{Q:Exit->Act->Hq->Prop}{a:Act}{M:QC Nat}
def eW{α β:Type}(f:α->QC β)(l:QC α)(k:Nat)(a:k<Z l):l.flatMap f=(l.take k).flatMap f++(f l[k]++(l.drop (k+1)).flatMap f):=by
 conv=>lhs;rw[<-mU k l,mm,lY a,mc]
def Y2{α β:Type}(f:α->QC β)(l:QC α)(k:Nat)(a:k<Z l):(l.take (k+1)).flatMap f=(l.take k).flatMap f++f l[k]:=by
 rw[lF a,mm];simp
def io{a:QC Bp}{s:QC Af}(m:∀f∈s,AJ f)(j:ZN s a)(v:UInt8)(e:QC bC):Z (Jd a s v e)<=Z s:=by
 have g:=Fr a s v e;cases hl:Dc a s v e with
 |nil=>
  cases ha:Jd a s v e with
  |nil=>simp
  |cons t l=>
   have h:=(g t).1 (by rw[ha];simp);exact absurd hl h.1
 |cons l ls=>
  have c:l∈Dc a s v e:=by rw[hl];simp
  have n:Z l<=Z s:=by
   unfold Dc at c;obtain⟨x,p,b⟩:=nD.1 c;by_cases d:(x.kind==97)=Cm
   .rw[lS d,oO]at b;obtain⟨i,o,rfl⟩:=b;unfold GS;rw[lR];exact nr _ _
   .rw[lO d]at b;cases b
  have:=NH (Jd a s v e) l (TF m j v e) (λt k=>((g t).1 k).2 l c);omega
def iL{a:QC Bp}{b:QC UInt8}(h:eh w n a f b)(v:UInt8)(e:QC bC):Z (Jd a f v e)<=10000:=by
 obtain⟨u,o,x,m,k,p,d,t,j,q,l,g,r,i,c⟩:=h.at_;have:=io c.canon h.fit v e;have:=h.len;omega
section
variable {P:Program} {ops:Array Oper} {Q:Exit->Act->Hq->Prop} {md:Region.Mode} {S:Hq->Prop} {k:Nat}
def CH.firstH{i:Nat}{n:Oper}{v:Value}(A:ops[i]?=V n)(G:∀(j:Nat) (o:Oper) p b,ops[j]?=V o->o.op≠ .select p b)
  (T:∀c a w,Q (.panic c) (a.put n.dst v) w->Q (.panic c) a w) (hW:ops.size<=k):
  ∀(r:Nat) (f:Array Bool) (a:Act) (w:Hq),
   (∀j m,ops[j]?=V m->j≠i->f.getD j Cm=false->(∀e∈m.after,Region.binds md e=Cm->e.on≠i)->n.apart ops m=Cm)->
   i∈Region.ready md ops f->YieldsIf P ops S n v a->S w->
   CH P md ops Q S k r (f.setIfInBounds i Cm) (a.put n.dst v) w->CH P md ops Q S k (r+1) f a w:=by
 intro r
 induction r with
 |zero=>
  intro f a w _ l u t H;refine⟨λh=>(by rw[h]at l;cases l),λj s=>?_⟩;by_cases d:j=i
  .subst d;exact u.wpOp A t ⟨λ_=>t,H⟩
  .have:=pH s d;rw[H.1]at this;cases this
 |succ r ih=>
  intro f a w D l u t H;have F:=(mem_ready.1 l).1;refine⟨λh=>(by rw[h]at l;cases l),λj s=>?_⟩;by_cases d:j=i
  .subst d;exact u.wpOp A t ⟨λ_=>t,H⟩
  .have C:j≠k:=λe=>by
    obtain⟨_,o,ho,_⟩:=mem_ready.1 s;have:=(mE.1 ho).1;omega
   have h1:=H.2 j (pH s d);obtain⟨B,m,y,AT⟩:=mem_ready.1 s;have Ax:∀e∈m.after,Region.binds md e=Cm->e.on≠i:=λe he N R=>by
    have g:=AT e he N;rw[R]at g;rcases Nat.lt_or_ge i f.size with z|z
    .simp[z]at F g;rw[F]at g;cases g
    .simp[oP z]at g
   have g:=wpOp_putIf y (D j m y d B Ax) (λp b=>G i n p b A) (λp b=>G j m p b y) T u h1;refine wpOp_mono (λa' M x=>⟨λ_=>x.2.1 C,ih (f.setIfInBounds j Cm) a' M (λq oq W AR I L=>D q oq W AR ?_ L) (pH l (Ne.symm d)) x.1 (x.2.1 C) ?_⟩) g
   .by_cases E:j=q
    .subst E;exact B
    .rw[getD_set_ne Cm E]at I;exact I
   .rw[pI _ _ d];exact x.2.2
def CH.zb{i:Nat}{d:Oper}{v:Value}{e:Nat}{b:Array Bool}{a:Act}{w:Hq}(f:ops[i]?=V d)
  (o:Region.noSelect ops=Cm) (g:Region.free md ops b i=Cm) (n:(Region.ready md ops b).contains i=Cm) (j:ops.size<=k)
  (p:∀c a w,Q (.panic c) (a.put d.dst v) w->Q (.panic c) a w) (m:S w) (l:YieldsIf P ops S d v a)
  (h:CH P md ops Q S k e (b.setIfInBounds i Cm) (a.put d.dst v) w):CH P md ops Q S k (e+1) b a w:=
 CH.firstH f (Region.noSelect_spec o) p j e b a w (Region.free_spec f g) (by simpa using n) l m h
def CH.tkH{i:Nat}{d:Oper}{v:Value}{f:Nat}{e:Array Bool}{a:Act}{w:Hq}(n:ops[i]?=V d)(b:kH md ops e i (decide (ops.size<=k))=Cm)
  (m:∀c a w,Q (.panic c) (a.put d.dst v) w->Q (.panic c) a w) (l:JR (S w)) (g:Region.wanted d (yielded ops a.tmps)=Cm) (j:∀w,S w->(execOp a.eval d).run P w=.ok (.value v) w)
  (h:CH P md ops Q S k f (e.setIfInBounds i Cm) (a.put d.dst v) w):CH P md ops Q S k (f+1) e a w:=by
 unfold kH at b;simp only[mi,n7]at b;exact CH.zb n b.1.1.1 b.1.1.2 b.1.2 b.2 m l (Hd ⟨g,j⟩) h
theorem CH.tqH{i:Nat}{b:Oper}{v:Value}{e:Nat}{d:Array Bool}{a:Act}{w:Hq}(n:ops[i]?=V b)(g:∀c a w,Q (.panic c) (a.put b.dst v) w->Q (.panic c) a w)(l:JR (S w))(h:CH P md ops Q S k e (d.setIfInBounds i Cm) (a.put b.dst v) w)(m:kH md ops d i (decide (ops.size<=k))=Cm:=by kernel_rfl)(f:Region.wanted b (yielded ops a.tmps)=Cm:=by rfl)
  (j:∀w,S w->(execOp a.eval b).run P w=.ok (.value v) w:=by(intro o p;(try go_split_ands);go_simp)):CH P md ops Q S k (e+1) d a w:=CH.tkH n m g l f j h
end
def gS(k:Nat)(h:k<=1000000):wrap64 ((k:Int)+1)=((k+1:Nat):Int):=by
 unfold wrap64;omega
def Ks(Q:Exit->Act->Hq->Prop):Exit->Act->Hq->Prop
 | .panic _,_,_=>False
 | .outgrown,_,_=>False
 |e,a,w=>Q e a w
def Gv{c:Code}(h:c.wp P (Ks Q) a w):c.wp P Q a w:=wp_mono h (λe a w h=>by
 cases e<;>first|exact h|exact h.elim)
structure Ze(M0:QC Nat)(w3:Hq)(M:QC Nat)(w:Hq):Prop where
 kept:Ac M0 w3 w
 mem:∀q∈M,(q∈M0\/w3.heap.size<=q)/\q<w.heap.size
def Ze.step{b M e:QC Nat}(h:Ze b v M w)(k:Ac M w u)(d:∀q∈e,(q∈M\/w.heap.size<=q)/\q<u.heap.size):Ze b v e u:=
 ⟨h.kept.trans' k (λi f=>(h.mem i f).1),λq c=>⟨by
  rcases(d q c).1 with a|a
  .exact(h.mem q a).1
  .exact Hf (mM h.kept.size a),(d q c).2⟩⟩
structure Xq(J:QC (QC bC)->QC Nat->Hq->Prop)(l:Nat)(P0:QC (QC bC))(M:QC Nat)(w5:Hq)(pre:QC (QC bC))(M':QC Nat)(W:Hq):Prop where
 at_:∃Mo,M'=l::Mo/\J (P0++pre) Mo W/\Ze M w5 Mo W
structure XB(Jx:QC (QC bC)->QC Nat->Hq->Prop)(l:Nat)(M:QC Nat)(w5:Hq)(c:Code)(W:Hq):Prop where
 ret:c=.ret
 at_:∃pre Mo,Jx pre Mo W
 kept:Ac (l::M) w5 W
def Xq.own{d:QC (QC bC)->QC Nat->Hq->Prop}{f:QC (QC bC)}(o:OwnFrom n (fun(s:QC (QC bC)×QC Nat) W=>d s.1 s.2 W))(t:n<=w.heap.size):OwnFrom w.heap.size (fun(s:QC (QC bC)×QC Nat) W=>Xq d m f M w s.1 s.2 W):=λs A C j p b a=>by
 obtain⟨h,k,i,c⟩:=p.at_;refine⟨h,k,o (f++s.1,h) A C j i b (λr e=>⟨by have:=(a r e).1;omega,(a r e).2⟩),c.kept.grown b (λr e=>Hf (a r e).1),λq g=>⟨(c.mem q g).1,nz (c.mem q g).2 b.size⟩⟩
def XB.own{h:QC (QC bC)->QC Nat->Hq->Prop}(k:OwnFrom n (fun(s:QC (QC bC)×QC Nat) W=>h s.1 s.2 W))(o:n<=w.heap.size)(c:Code):OwnFrom w.heap.size (fun(s:QC (QC bC)×QC Nat) W=>XB h m M w c W):=λs A C j b f a=>by
 obtain⟨d,g,i⟩:=b.at_;exact⟨b.ret,⟨d,g,k (d,g) A C j i f (λr e=>⟨by have:=(a r e).1;omega,(a r e).2⟩)⟩,b.kept.grown f (λr e=>Hf (a r e).1)⟩
def GM{d:UInt8->QC bC->QC bC}{f:QC Bp}{s:QC Af}:∀(c:QC UInt8) (e:QC bC),Z e=26->∀b∈Av d f s c e,Z b=26
 |[],e,he,b,a=>by
  rw[Av]at a;split at a
  .simp at a
  .rw[lG]at a;rw[a];exact he
 |v::c,e,he,b,a=>by
  rw[Av]at a;split at a
  .simp at a
  .obtain⟨t,_,a⟩:=mD.1 a;exact GM c _ (by rw[nj];exact he) b a
def MH{a:QC Nat}(h:DD n a w)(k:Ac M w v)(c:∀D∈a,D∉M):DD n a v:=
 ⟨h.nodup,h.ge,λD b=>(k.block D (mE.1 (h.at_ D b)).1 (c D b)).trans (h.at_ D b)⟩
def WR(h:DD n M w):∀D∈M,D<w.heap.size:=λD a=>(mE.1 (h.at_ D a)).1
set_option maxRecDepth 100000
theorem UQ(G:Nat)(A:QC Bp)(s:QC Af)(vs:QC UInt8)(w0:Hq)(M1:QC Nat)(M3:∀f,Ac M1 w0 f->eh f G A s vs)(v:UInt8)(FO:QC UInt8)(m A2:Nat)(e:QC bC)(b1 b2 b3 b4:Nat)(w:Hq)(M0:QC Nat)(he:Dr e)
  (HM:m<A2) (f3:A2<=Z vs) (hv:vs[m]'(by omega)=v) (hB:Vd w0 M1 G b1 b2 b3 b4 m A2 e M0 w)
  (ih:∀(e':QC bC) (c1 c2 c3 c4:Nat) (w':Hq) (M:QC Nat),Dr e'->Vd w0 M1 G c1 c2 c3 c4 (m+1) A2 e' M w'->
   Lv prog 176 #[Gi (V ⟨c1,0,Y⟩),Gi (V ⟨c2,0,Y⟩),Gi (V ⟨c3,0,Y⟩),Gi (V ⟨c4,0,Y⟩)] (λx=>#[Ms (D6 (Aj (Bq x)))]) (Av (Jd A s) A s FO e') M w'):
  Lv prog 176 #[Gi (V ⟨b1,0,Y⟩),Gi (V ⟨b2,0,Y⟩),Gi (V ⟨b3,0,Y⟩),Gi (V ⟨b4,0,Y⟩)] (λx=>#[Ms (D6 (Aj (Bq x)))]) (Av (Jd A s) A s (v::FO) e) M0 w:=by
 intro l B2 Jx W H9 ca ef hJ RT hR db;have hS:=M3 _ hB.kept;have KD:EH v:=by rw[<-hv];exact hS.ok _ (lE _)
 have FB:=hB.grow H9;have K7:JR (∀f,Ac [] W f->Calls prog 177 #[Gi (V ⟨G,0,Y⟩),Ms (D6 (Aj (Bq e)))] f λr w'=>r=G3 (.bool (DU A s e))/\Ac [] f w'):=λf p=>Un (M3 _ (FB.kept.trans (p.mono (by simp)))) he
 have HV:JR (∀f,Ac [] W f->Calls prog 178 #[Gi (V ⟨G,0,Y⟩),X .i32 (v.toNat:Int),Ms (D6 (Aj (Bq e)))] f λr w'=>∃(ad:Option Addr) (cp:Nat),r=G3 (U ad (Z ((Jd A s v e).map AD)) cp)/\
   w'.ownsRow f.heap.size 170 1 (U ad (Z ((Jd A s v e).map AD)) cp) (Z ((Jd A s v e).map AD)) (((Jd A s v e).map AD).flatMap Ag)/\Ac [] f w'):=λf p=>VQ (M3 _ (FB.kept.trans (p.mono (by simp)))) he KD
 have hc:=Bt (Bq e);have NN:Z (Aj (Bq e))=26:=by unfold Aj;rw[lR];exact Is he
 have MY:=Ab NN;have a2:JR (∀u∈Aj (Bq e),u.oneCell'=Cm):=by
  intro u hu;unfold Aj at hu;obtain⟨y,_,rfl⟩:=lP.1 hu;rfl
 have HX:JR (Av (Jd A s) A s (v::FO) e=if DU A s e then[] else(Jd A s v e).flatMap λt=>Av (Jd A s) A s FO (e.set (v.toNat-65) t)):=by show _=_;rw[Av]
 have af:JR (∀t∈Jd A s v e,A6 t):=cO hS v e;have T0:JR (Z (Jd A s v e)<=10000):=iL hS v e;have NY:JR (∀t,A6 t->Dr (e.set (v.toNat-65) t)/\Aj (Bq (e.set (v.toNat-65) t))=(Aj (Bq e)).set (v.toNat-65) (O (AD t))):=λt ht=>⟨he.set _ ht,by rw[ie e _ ht];unfold Aj;rw[pV]⟩
 obtain⟨kb,ko,bv,og,IS,X2,RB⟩:=cV hS m (by omega)
 rw[hv]at RB;have DY:JR (∀f,Ac [] W f->Lc f ⟨G,2,Y⟩=V (U (V ⟨og,0,Y⟩) (Z vs) IS)/\Lc f ⟨og,m,Y⟩=V (X .i32 (v.toNat:Int))):=λf p=>by
  have h1:=(X2.kept (H9.trans p)).cell 2;simp at h1;exact⟨h1,(H9.trans p).cellAt RB⟩
 have g0:=Ab ih;have TK:=Ab hR;have HJ:=Ab hJ;have gz:=Ab RT;have eB:=Ab db;have HB:=Ab FB;have e8:JR (w.heap.size<=l/\l<W.heap.size/\Ac [] w W/\Vd w0 M1 G b1 b2 b3 b4 m A2 e M0 w):=⟨ca,ef,H9,hB⟩
 have ho:=Ab KD;obtain⟨j,hj⟩:∃j:Nat,v.toNat-65=j:=⟨_,rfl⟩;have ch:JR ((v.toNat:Int)=(j:Int)+65/\j<26):=by
  obtain⟨h1,h2⟩:=KD;exact⟨by omega,by omega⟩
 rw[hj]at HX NY;obtain⟨B,bb⟩:=QP (Jd A s v e);rw[bb]at HX af HV T0;obtain⟨H,K9⟩:∃H:bC->QC (QC bC),(λt=>Av (Jd A s) A s FO (e.set j t))=H:=⟨_,rfl⟩;have e1:JR (∀t,Av (Jd A s) A s FO (e.set j t)=H t):=λt=>by rw[<-K9]
 have WB:JR (∀t,∀x∈H t,Z x=26):=λt x hx=>by
  rw[<-K9]at hx;exact GM FO _ (by rw[nj];exact he.len) x hx
 rw[K9]at HX;obtain⟨XS,d7⟩:=QP (Av (Jd A s) A s (v::FO) e);rw[d7]at HX TK⊢;obtain⟨F,hF⟩:=QP (DU A s e);rw[hF]at HX K7;obtain⟨E,hE⟩:=QP (Aj (Bq e));have fv:=Ab hE;have QR:=FB.bound;rw[hE]at hc NN MY a2 K7 HV NY QR;have ew:=Aa ch;rw[ew.1]at HV DY;have c1:=FB.s.cell 0;have c3:=FB.fr.cell 0;have c4:=FB.zj.cell 0;simp at c1 c3 c4;have ST:JR (∀f,Ac [] W f->AI f b2 E 243/\Lc f ⟨b1,0,Y⟩=V (Gi (V ⟨G,0,Y⟩))/\Lc f ⟨b3,0,Y⟩=V (X J m)/\Lc f ⟨b4,0,Y⟩=V (X J A2)):=λf p=>⟨QR.kept p,p.cellAt c1,p.cellAt c3,p.cellAt c4⟩
 have hH:((m:Int)==(A2:Int))=false:=by simp;omega
 have hh:(0:Int)<=(m:Int):=by omega
 have g9:(m:Int)<(Z vs:Int):=by omega
 have e4:=hS.zU;have hI:IntKind.i64.wrap ((m:Int)+1)=(m:Int)+1:=by rw[nU];omega
 obtain⟨VL,aC⟩:=QP (Z vs);rw[aC]at g9 DY;have NX:JR (∀k∈M0,k<W.heap.size/\k≠b1/\k≠b2/\k≠b3/\k≠b4):=λk p=>by
  obtain⟨_,h2,h3,h4,h5,h6⟩:=FB.apart k p;exact⟨h6,h2,h3,h4,h5⟩
 obtain⟨QQ,Nq⟩:=QP (Ks (bodyPostM Fence.wide 0 prog Tryz.f176 λe o=>(∃v,e=G3 v)/\((∃I,B2 XS I o)\/(∃BS I,Jx BS I o))));have BB:JR (∀c a w,¬QQ (.panic c) a w):=by
  intro c a w h;rw[<-Nq]at h;exact h
 have NA:JR (∀(LB:Array Value) (R:QC Nat) (f:Hq),DD W.heap.size R f->((∃I,B2 XS I f)\/(∃BS I,Jx BS I f))->QQ .ret ⟨LB,R.map EO⟩ f/\QQ .normal ⟨LB,R.map EO⟩ f):=by
  intro LB R f hm hp;rw[<-Nq];have et:LeavesInM Fence.wide 0 prog Tryz.f176 LB (λe o=>(∃v,e=G3 v)/\((∃I,B2 XS I o)\/(∃BS I,Jx BS I o))) (R.map EO) .returning f:=by
   refine DC R f hm (λw' hs=>⟨_,pj rfl _ _ _,⟨_,rfl⟩,?_⟩);rcases hp with⟨I,h⟩|⟨BS,I,h⟩
   .exact Hd ⟨I,hs.own hJ (s:=(XS,I)) hm h⟩
   .exact Hf ⟨BS,I,hs.own RT (s:=(BS,I)) hm h⟩
  exact⟨et,et⟩
 have H3:=Ab ((SF [] W).alloc (.cells #[.func (.yield l) #[] #[]] 279));have MB:=Ab (Tc W [.func (.yield l) #[] #[]] 279);show Calls prog 176 #[.func (.yield l) #[] #[],Gi (V ⟨b1,0,Y⟩),Gi (V ⟨b2,0,Y⟩),Gi (V ⟨b3,0,Y⟩),Gi (V ⟨b4,0,Y⟩)] W _;refine EQ func176 rfl (Gv ?_);rw[Nq];clear Nq hB FB QR hR hJ db RT d7 hE hF c1 c3 c4 H9 ca ef ih hS M3 he hv KD X2 RB hj bb K9 aC ew f3 e4 HM;simp only[ntmps176,mW,lQ,mn,Nat.reduceAdd,Nat.reduceSub,om,oo,oK,oz,mR,ny];refine Q0 (λK1 P=>?_);go_wp2;refine P _ _ ?_;clear P K1;change Code.wp _ _ _ _ (W.alloc (.cells [.func (.yield l) #[] #[]].toArray 279));generalize hw1:W.alloc (.cells [.func (.yield l) #[] #[]].toArray 279)=w1 at H3 MB⊢;clear hw1;obtain⟨N,hN⟩:=QP W.heap.size;have HN:=Ab hN;rw[hN]at MB⊢;clear hN;obtain⟨q2,q1,q3,q4⟩:=ST w1 H3;have c0:=Ab (K7 w1 H3);have cz:=Ab q2;clear q2;refine Q0 (λK1 P=>?_);go_wp2_with ((with_reducible show wpList _ _ _ ({dst:=_,op:=Op.load 243 _,type:=_,pos:=_,after:=_,guard:=_}::_) _ _);refine BW (by rfl) 243 _ rfl b2 0 (by rfl) E _ cz.range underlying243 rfl (by rw[Aa MY];exact Tryz.bi) ?_)
 refine c0.mono ?_;rintro _ w2 ⟨rfl,k2⟩;have H7:=Ab (H3.trans k2);have bd:=Ab (MB.kept k2);have N4:JR (B2 [] M0 w2):=BK HJ (s:=([],M0)) eB H7;clear k2 q1 q3 q4 cz c0 K7 H3 MB;cases F with
 |true=>
  have LE:JR (XS=[]):=by show _=_;rw[Aa HX,lS rfl]
  go_wp2;exact(NA _ [] w2 ⟨n6,λ_ h=>by simp at h,λ_ h=>by simp at h⟩ (Hd ⟨M0,by rw[Aa LE];exact N4⟩)).1
 |false=>
  have LE:JR (XS=B.flatMap H):=by show _=_;rw[Aa HX,lO (by simp)]
  clear HX;go_wp2;refine P _ _ ?_;clear P K1;obtain⟨r2,r1,r3,r4⟩:=ST w2 H7;clear r2;refine Q0 (λK1 P=>?_);go_wp2;refine P _ _ ?_;clear P K1;obtain⟨o1,o2⟩:=DY w2 H7;refine Q0 (λK1 P=>?_)
  .refine CI 7 (λf=>Lc f ⟨b1,0,Y⟩=V (Gi (V ⟨G,0,Y⟩))/\Lc f ⟨b3,0,Y⟩=V (X J m)/\Lc f ⟨G,2,Y⟩=V (U (V ⟨og,0,Y⟩) VL IS)/\Lc f ⟨og,m,Y⟩=V (X .i32 ((j:Int)+65))) (by kernel_rfl) ?_
   have Ax:JR (Lc w2.drew ⟨b1,0,Y⟩=V (Gi (V ⟨G,0,Y⟩))/\Lc w2.drew ⟨b3,0,Y⟩=V (X J m)/\Lc w2.drew ⟨G,2,Y⟩=V (U (V ⟨og,0,Y⟩) VL IS)/\Lc w2.drew ⟨og,m,Y⟩=V (X .i32 ((j:Int)+65))):=⟨r1,r3,o1,o2⟩
   refine CH.tq (i:=0) (v:=Gi (V ⟨G,0,Y⟩)) rfl (BE BB) Ax ?_;simp only[OD,lz,lC,lD];refine CH.tq (i:=1) (v:=Gi (V ⟨G,0,Y⟩)) rfl (BE BB) Ax ?_;simp only[OD,lz,lC,lD];refine CH.tq (i:=2) (v:=Gi (V ⟨G,2,Y⟩)) rfl (BE BB) Ax ?_;simp only[OD,lz,lC,lD];refine CH.tq (i:=3) (v:=U (V ⟨og,0,Y⟩) VL IS) rfl (BE BB) Ax ?_;simp only[OD,lz,lC,lD];refine CH.tq (i:=4) (v:=X J m) rfl (BE BB) Ax ?_
   simp only[OD,lz,lC,lD];refine CH.tq (i:=5) (v:=Gi (V ⟨og,m,Y⟩)) rfl (BE BB) Ax ?_;simp only[OD,lz,lC,lD];refine CH.tq (i:=6) (v:=X .i32 ((j:Int)+65)) rfl (BE BB) Ax ?_;simp only[OD,lz,lC,lD];refine CH.one (i:=7) (by kernel_rfl) rfl (λHQ hK=>?_)
   go_simp
   refine hK.out _ _ (λh=>absurd rfl h) ?_;clear hK HQ;refine CH.done (by kernel_rfl) ?_ _
   try simp only[OD,lz,lC,lD]
   refine P _ _ ?_;clear P K1 Ax r1 r3 r4 o1 o2;have HD:=Ab (H7.drew);have Pl:JR (B2 [] M0 w2.drew):=BK HJ (s:=([],M0)) N4 (SF [] w2).drew;have Nx:=Ab (bd.drew);generalize w2.drew=w2d at HD Pl Nx⊢;clear H7 N4 bd;obtain⟨r2,r1,r3,r4⟩:=ST w2d HD;have a0:=Ab r2;have c5:=Ab (HV w2d HD);clear r2 HV;go_wp2_with ((with_reducible show wpList _ _ _ ({dst:=_,op:=Op.load 243 _,type:=_,pos:=_,after:=_,guard:=_}::_) _ _);refine BW (by rfl) 243 _ rfl b2 0 (by rfl) E _ a0.range underlying243 rfl (by rw[Aa MY];exact Tryz.bi) ?_)
   refine c5.mono ?_;rintro _ w3 ⟨ad,cp,rfl,bn,k3⟩;have K4:=Ab (HD.trans k3);have av:JR (B2 [] M0 w3):=BK HJ (s:=([],M0)) Pl k3;have cR:=Ab (Nx.kept k3);have cl:=Ab (Al bn (show W.heap.size<=w2d.heap.size from HD.size))
   obtain⟨L,hL⟩:=QP (Z (B.map AD));(have HL:JR (Z B=L):=by show _=_;rw[<-hL,lR]);rw[hL]at cl⊢;clear bn k3 hL c5 HD Pl Nx r1 r3 r4 a0;have b0:JR (∀f,Ac M0 w3 f->AI f b2 E 243/\AI f b1 [Gi (V ⟨G,0,Y⟩)] 233/\AI f b3 [X J m] 3/\AI f b4 [X J A2] 3/\AI f N [.func (.yield l) #[] #[]] 279/\f.ownsRow N 170 1 (U ad L cp) L ((B.map AD).flatMap Ag)):=by
    intro f p;have hb:=HB.grow K4;have cv:=hb.bound;rw[Aa fv]at cv;have HO:=Aa NX;have hn:=Aa HN;refine⟨cv.kept p (λh=>(HO _ h).2.2.1 rfl),hb.s.kept p (λh=>(HO _ h).2.1 rfl),hb.fr.kept p (λh=>(HO _ h).2.2.2.1 rfl),hb.zj.kept p (λh=>(HO _ h).2.2.2.2 rfl),cR.kept p (λh=>by have:=(HO _ h).1;omega),?_⟩;have hr:=Aa cl;rw[hn]at hr;exact Ai hr p (λi S hm=>by have h1:=(hr.lt i S).1;have h2:=(HO i hm).1;omega)
   (go_wp2_with fail);refine wp_loop_ghost_k (λgk a wr=>∃(k:Nat) (M R:QC Nat) (y7 y8 y9 b6 a4 TX an WW X1 bx cB cr ek es c6 W1 ar d5 W3 c9 a3 aB U1 aa W2 a6 ao c8 cs a1 cx b9 b7 ZV VR br ba a8 ag ab:Value),a=⟨#[.func (.yield l) #[] #[],Gi (V ⟨b1,0,Y⟩),Gi (V ⟨b2,0,Y⟩),Gi (V ⟨b3,0,Y⟩),Gi (V ⟨b4,0,Y⟩),Gi (V ⟨N,0,Y⟩),X .i32 ((j:Int)+65),y7,y8,y9,b6,a4,TX,an,WW,X1,bx,cB,cr,ek,es,c6,W1,ar,d5,W3,c9,a3,aB,U ad L cp,X J L,X J k,U1,aa,W2,a6,ao,c8,cs,a1,cx,b9,b7,ZV,VR,br,ba,a8,ag,ab],R.map EO⟩/\k<=L/\gk=L-k/\JR (B2 ((B.take k).flatMap H) M wr)/\JR (Ze M0 w3 M wr)/\JR (DD N R wr/\∀D∈R,D∉M)) L ?start ?round
   case start=>
    refine⟨0,M0,[],_,_,_,_,_,_,_,_,_,_,_,_,_,_,_,_,_,_,_,_,_,_,_,_,_,_,_,_,_,_,_,_,_,_,_,_,_,_,_,_,rfl,by omega,rfl,by rw[oT];exact av,⟨SF _ _,λq z=>⟨Hd z,?_⟩⟩,⟨⟨n6,λ_ h=>by simp at h,λ_ h=>by simp at h⟩,λ_ h=>by simp at h⟩⟩;have h1:=(NX q z).1;have h2:=K4.size;omega
   case round=>
    rintro gk a wr ⟨k,M,R,y7,y8,y9,b6,a4,TX,an,WW,X1,bx,cB,cr,ek,es,c6,W1,ar,d5,W3,c9,a3,aB,U1,aa,W2,a6,ao,c8,cs,a1,cx,b9,b7,ZV,VR,br,ba,a8,ag,ab,rfl,p,bt,VS,Ha,SK⟩ JJ KK bz c7;have HG:=Ab bt;have gr:=Ab bz;have e7:=Ab c7;clear bt bz c7 av;by_cases e3:k<L
    .obtain⟨s2,s1,s3,s4,s5,s6⟩:=b0 wr Ha.kept;(have Nj:k<Z B:=by have:=Aa HL;omega);obtain⟨g,hA,SJ,JA⟩:=GD (l:=B.map AD) (by rw[lR,Aa HL];exact s6) k (by rw[lR];exact Nj);rw[lR,Aa HL]at SJ;simp only[lB]at SJ;obtain⟨rfl,-,rfl⟩:=SJ;rw[List.getElem_map]at JA;obtain⟨t,ht⟩:=QP (B[k]);rw[ht]at JA;(have UO:A6 t:=by rw[<-ht];exact af _ (lE Nj));obtain⟨NB,SL⟩:=NY t UO;(have fk:JR (XS=(B.take k).flatMap H++(H t++(B.drop (k+1)).flatMap H)):=by show _=_;rw[Aa LE,eW H B k Nj,ht]);(have fl:JR ((B.take (k+1)).flatMap H=(B.take k).flatMap H++H t):=by show _=_;rw[Y2 H B k Nj,ht]);have al:=Ab SL;have gp:=Ab NB;(have hw:(0:Int)<=(k:Int):=by omega);(have f5:(k:Int)<(L:Int):=by omega);have hV:=Ab s2;have c1:=s1.cell 0;have c3:=s3.cell 0;have c4:=s4.cell 0;simp at c1 c3 c4;have M2:JR (∀f,Ac [] wr f->f.rangeAt b2 0 E/\Ac [] wr f/\Lc f ⟨b1,0,Y⟩=V (Gi (V ⟨G,0,Y⟩))/\Lc f ⟨b3,0,Y⟩=V (X J m)/\Lc f ⟨b4,0,Y⟩=V (X J A2)):=λf p=>⟨(s2.kept p).range,p,p.cellAt c1,p.cellAt c3,p.cellAt c4⟩
     (have NV:JR (∀f,Calls prog 179 #[Ms (D6 E),X .i32 ((j:Int)+65),O (AD t)] f λr w'=>r=G3 (Ms (D6 (E.set j (O (AD t)))))/\Ac [] f w'):=λf=>bQ E j (AD t) f NN ch.2 hc a2);have RE:JR (∀f,Calls prog 141 #[Gi (V ⟨G,0,Y⟩),X J ((m:Int)+1),X J A2,Ms (D6 (E.set j (O (AD t))))] f λr w'=>∃b1 b2 b3 b4,r=G3 (.func (.func 176) #[] #[Gi (V ⟨b1,0,Y⟩),Gi (V ⟨b2,0,Y⟩),Gi (V ⟨b3,0,Y⟩),Gi (V ⟨b4,0,Y⟩)])/\
       AI w' b1 [Gi (V ⟨G,0,Y⟩)] 233/\AI w' b2 (E.set j (O (AD t))) 243/\AI w' b3 [X J ((m+1:Nat):Int)] 3/\AI w' b4 [X J A2] 3/\(f.heap.size<=b1/\f.heap.size<=b2/\f.heap.size<=b3/\f.heap.size<=b4)/\Ac [] f w'):=λf=>by
      have h:=IR G (m+1) A2 (Aj (Bq (e.set j t))) f (Bt _) (by unfold Aj;rw[lR];exact Is NB);rw[SL]at h;rw[show((m:Int)+1)=((m+1:Nat):Int) by omega];exact h
     clear ht UO NB SL s1 s3 s4 s5 s6 s2 c1 c3 c4;generalize AD t=tb at JA NV RE al;refine Q0 (λK1 P=>?_);go_wp2;refine P _ _ ?_;clear P K1;refine Q0 (λK1 P=>?_);go_wp2;refine P _ _ ?_;clear P K1;refine Q0 (λK5 bl=>?_);refine wp_block ?_;refine Q0 (λK1 P=>?_);go_wp2;refine P _ _ ?_;clear P K1 JA;refine Q0 (λK6 bs=>?_);refine CI 9 (λf=>f.rangeAt b2 0 E/\Ac [] wr f/\Lc f ⟨b1,0,Y⟩=V (Gi (V ⟨G,0,Y⟩))/\Lc f ⟨b3,0,Y⟩=V (X J m)/\Lc f ⟨b4,0,Y⟩=V (X J A2)) (by kernel_rfl) ?_
     have Ax:=Ab (M2 wr.drew (SF [] wr).drew);refine CH.tqH (i:=0) (v:=Gi (V ⟨G,0,Y⟩)) rfl (BE BB) Ax ?_;simp only[OD,lz,lC,lD];refine CH.tqH (i:=1) (v:=X J m) rfl (BE BB) Ax ?_
     simp only[OD,lz,lC,lD];refine CH.tqH (i:=2) (v:=X J ((m:Int)+1)) rfl (BE BB) Ax ?_;simp only[OD,lz,lC,lD];refine CH.tqH (i:=3) (v:=X J A2) rfl (BE BB) Ax ?_;simp only[OD,lz,lC,lD];refine CH.zb (i:=4) (v:=Ms (D6 E)) rfl (by kernel_rfl) (by kernel_rfl) (by kernel_rfl) (by decide) (λ_ _ _ h=>absurd h (BB _ _ _)) Ax (yieldsIf_load_mid (by rfl) 243 _ rfl b2 0 (by rfl) E _ (λf hz=>hz.1) underlying243 rfl (by rw[Aa MY];exact Tryz.bi)) ?_;simp only[OD,lz,lC,lD];refine CH.tqH (i:=5) (v:=X .i32 ((j:Int)+65)) rfl (BE BB) Ax ?_;simp only[OD,lz,lC,lD];refine CH.tqH (i:=6) (v:=O tb) rfl (BE BB) Ax ?_;simp only[OD,lz,lC,lD];refine CH.one (i:=7) (by kernel_rfl) rfl (λHQ hK=>?_)
     go_simp
     refine(NV _).mono ?_;rintro _ w4 ⟨rfl,k4⟩;have RV:Ac [] wr w4:=(SF [] wr).drew.trans k4;refine hK.out _ _ (λ_=>M2 w4 RV) ?_;clear hK HQ;have X3:=Ab RV;clear k4 RV
     try simp only[OD,lz,lC,lD]
     refine CH.one (i:=8) (by kernel_rfl) rfl (λHQ hK=>?_)
     go_simp
     refine(RE _).mono ?_;rintro _ w5 ⟨d1,d2,d3,d4,rfl,n1,n2,n3,n4,f6,k5⟩;have H6:Ac [] wr w5:=X3.trans k5;refine hK.out _ _ (λ_=>M2 w5 H6) ?_;clear hK HQ;refine CH.done (by kernel_rfl) ?_ _
     try simp only[OD,lz,lC,lD]
     refine bs _ _ ?_;clear bs K6 Ax NV RE M2;(have LL:∀q∈M,q<wr.heap.size:=λq z=>(Ha.mem q z).2);have g5:=Aa e8;have hY:=k5.size;have ha:=X3.size;have hM:=Ha.kept.size;have hC:=K4.size;have fa:Vd w0 M1 G d1 d2 d3 d4 (m+1) A2 (e.set j t) (l::M) w5:=by
      refine⟨?_,n1,by rw[Aa al];exact n2,n3,n4,λq z=>?_⟩
      .exact(HB.kept.trans (K4.mono (by simp))).trans' (Ha.kept.trans (H6.mono (by simp))) (λi S=>(HB.apart i S).1)
      .have gv:(q∈M1\/w0.heap.size<=q)/\q<wr.heap.size:=by
        have h0:=HB.kept.size;rcases lI.1 z with rfl|z
        .have h1:=g5.2.2.2.kept.size;exact⟨Hf (by omega),by omega⟩
        .refine⟨?_,LL q z⟩;rcases(Ha.mem q z).1 with h|h
         .exact(HB.apart q h).1
         .exact Hf (by omega)
       obtain⟨g1,g2,g3,g4⟩:=f6;exact⟨gv.1,by omega,by omega,by omega,by omega,by omega⟩
     have co:=Aa g0 (e.set j t) d1 d2 d3 d4 w5 (l::M) gp fa;rw[Aa e1 t]at co;have gb:B2 ((B.take k).flatMap H) M w5:=BK HJ (s:=((B.take k).flatMap H,M)) VS H6;have dT:JR (Ze M0 w3 M w5):=Ha.step (H6.mono (by simp)) (λq z=>⟨Hd z,by have:=LL q z;omega⟩);have FC:JR (DD N R w5/\∀D∈R,D∉M):=⟨MH SK.1 H6 (λ_ _ h=>by simp at h),SK.2⟩;(have cb:W.heap.size<=w5.heap.size:=by omega);refine wp_block ?_;refine Jm (T:=243) (q:=9) rfl (enters_of func176 (by kernel_rfl) rfl) co (λq z=>by
      rcases lI.1 z with rfl|z
      .omega
      .have:=LL q z;omega) (Xq B2 l ((B.take k).flatMap H) M w5) (λc _ _ o=>XB Jx l M w5 c o) (Xq.own HJ cb) (λc=>XB.own gz cb c) ⟨M,rfl,by rw[mz];exact gb,SF _ _,λq z=>⟨Hd z,by have:=LL q z;omega⟩⟩ ?rassign ?rbody ?rdone ?rstop
     case rassign=>
      intro l' x o HQ hx HK;(have FF:Z (Aj (Bq x))=26:=by unfold Aj Bq;rw[lR,lR];exact WB t x hx);have YP:JR (∀u∈Aj (Bq x),u.oneCell'=Cm):=by
       intro u hu;unfold Aj at hu;obtain⟨y,_,rfl⟩:=lP.1 hu;rfl
      obtain⟨EX,HZ⟩:=QP (Aj (Bq x));rw[HZ]at FF YP HK⊢;have RG:=Ab FF;(have eg:JR (EX.toArray.size=26):=by show _=_;simp[FF]);clear hx HZ FF;simp only[lz,lC,lD]at HK⊢;refine AN (by rfl) (It GC) ?_;go_wp2_with ((with_reducible show wpList _ _ _ ({dst:=_,op:=Op.store 243 _ _,type:=_,pos:=_,after:=_,guard:=_}::_) _ _);refine nN rfl 243 _ _ rfl o.heap.size 0 (D6 EX) (by rfl) (by rfl) ?_ ?_ ?_ ?_)
      .have h:=(Tc o (NP 26 (O ⟨#[]⟩)) 243).there;simp only[nJ]at h;rw[Aa eg];exact h
      .rw[Aa eg];exact Tryz.bi
      .exact m7 YP
      .refine HK _ (((SF [] o).alloc (.cells (D6 (NP 26 (O ⟨#[]⟩))) 243)).di (b:=o.heap.size) (Hf (lX _)) EX 0) ?_;exact(Tc o (NP 26 (O ⟨#[]⟩)) 243).fo EX (by rw[Aa RG];simp)
     case rbody=>
      intro l' Bx BS x gx I o RI S f4 hT OB;obtain⟨Mo,rfl,CL,ES⟩:=S.at_;have en:AI o N [.func (.yield l) #[] #[]] 279:=by
       have h5:=(b0 w5 dT.kept).2.2.2.2.1;refine h5.kept ES.kept (λh=>?_);rcases(Ha.mem N h).1 with h|h
       .have:=(NX N h).1;have:=Aa HN;omega
       .have h7:=cR.lt;omega
      have HY:=Ab (TK ((B.take k).flatMap H++BS) x (gx++(B.drop (k+1)).flatMap H) Mo o (by rw[Aa fk,RI];simp) CL);have cy:=en.cell 0;simp at cy;(have FF:Z (Aj (Bq x))=26:=by unfold Aj Bq;rw[lR,lR];exact WB t x (by rw[RI];simp));obtain⟨EX,HZ⟩:=QP (Aj (Bq x));simp only[HZ]at FF OB HY⊢;have e6:=Ab OB;have RG:=Ab FF;have HS:=Ab ES;clear S OB FF en CL ES f4 HZ RI;simp only[lz,lC,lD];refine wpIn_block ?_;refine m8 (λK3 X0=>?_);have LM:=Ab X0;clear X0;refine Qb (n:=0) 2 (by rfl) (by rintro ⟨_,_,h⟩;exact h) (λK2 ap=>?_);simp only[oy,oT];go_wp2_with ((with_reducible show wpList _ _ _ ({dst:=_,op:=Op.load 243 _,type:=_,pos:=_,after:=_,guard:=_}::_) _ _);refine BW (by rfl) 243 _ rfl Bx 0 (by rfl) EX _ e6.range underlying243 rfl (by rw[Aa RG];exact Tryz.bi) ?_)
      refine ap _ _ ?_;clear ap K2;simp only[oM,pd];refine J8 (F:=Fence.wide.inRound l') (λ_=>trivial) rfl rfl (l:=l) (args:=#[Ms (D6 EX)]) (by rfl) (by first|(simp[go_sem,Oper.semAt];done)|(simp[go_sem,Oper.semAt,execOp,resolve,invoke];done)) HY ?_;rintro r w6 (⟨rfl,M6,CL,Go,LC⟩|⟨rfl,M6,CL,Go⟩)
      .refine⟨_,rfl,KN (by rfl) (by rintro ⟨_,_,h⟩;exact h) ?_⟩;simp only[OD,lz,lC,lD];have HP:JR (LK (Xq B2 l ((B.take k).flatMap H) M w5) (λc _ _ o=>XB Jx l M w5 c o) (BS++[x]) (l::Mo) o .normal ⟨#[],[]⟩ w6):=by
        (have e2:l<w6.heap.size:=by have:=Go.size;have:=HS.kept.size;omega);refine⟨Go.mono (λi S=>my _ S),l::M6,⟨M6,rfl,by rw[<-mO];exact CL,HS.step Go LC⟩,λq z=>?_⟩;rcases lI.1 z with rfl|z
        .exact⟨Hd (mV ..),e2⟩
        .refine⟨?_,(LC q z).2⟩;rcases(LC q z).1 with h|h
         .exact Hd (my _ h)
         .exact Hf h
       clear CL Go LC HY;go_wp2;refine LM _ _ ?_;clear LM K3;refine oC rfl (wpIn_skip ?_);exact HP
      .refine⟨_,rfl,KN (by rfl) (by rintro ⟨_,_,h⟩;exact h) ?_⟩;simp only[OD,lz,lC,lD];have HP:JR (LK (Xq B2 l ((B.take k).flatMap H) M w5) (λc _ _ o=>XB Jx l M w5 c o) (BS++[x]) (l::Mo) o .ret ⟨#[],[]⟩ w6):=by
        refine⟨Go,M6,rfl,⟨_,M6,CL⟩,?_⟩;refine(HS.kept.mono (N:=l::M) (λi S=>my _ S)).trans' Go (λi S=>?_);rcases lI.1 S with rfl|S
        .exact Hd (mV ..)
        .exact((HS.mem i S).1).imp (λh=>my _ h) id
       clear CL Go HY;go_wp2;refine LM _ _ ?_;clear LM K3;refine oI rfl (wpIn_ret ?_);exact HP
     case rdone=>
      intro D I o hD S hd gg;obtain⟨Mo,rfl,CL,ES⟩:=S.at_;have HS:JR (Ze M0 w3 Mo o):=dT.step ES.kept ES.mem;(have eT:=λq (z:q∈Mo)=>(ES.mem q z).1);have f8:JR (DD N (D::R) o/\∀d∈D::R,d∉Mo):=by
       have hm:=MH FC.1 ES.kept FC.2;have HM:=WR FC.1;refine⟨⟨nL.2 ⟨λh=>by have:=HM D h;omega,hm.nodup⟩,λd C=>?_,λd C=>?_⟩,λd C U0=>?_⟩
       .rcases lI.1 C with rfl|C
        .have:=Aa HN;omega
        .exact hm.ge d C
       .rcases lI.1 C with rfl|C
        .exact hd
        .exact hm.at_ d C
       .rcases lI.1 C with rfl|C
        .exact gg _ (my _ U0) rfl
        .rcases(ES.mem d U0).1 with h|h
         .exact FC.2 d C h
         .have:=HM d C;omega
      (have gw:JR (B2 ((B.take (k+1)).flatMap H) Mo o):=by rw[Aa fl];exact CL);clear S CL ES eT;refine bl _ _ ?_;clear bl;go_wp2;refine e7 _ _ (Handed.intro (L-(k+1)) (by have:=Aa HG;omega) (gr _ _ _ ?_));have gt:wrap64 ((k:Int)+1)=((k+1:Nat):Int):=gS k (by have:=Aa T0;have:=Aa HL;omega);rw[gt];exact⟨k+1,Mo,D::R,_,_,_,_,_,_,_,_,_,_,_,_,_,_,_,_,_,_,_,_,_,_,_,_,_,_,_,_,_,_,_,_,_,_,_,_,_,_,_,_,rfl,e3,rfl,gw,HS,f8⟩
     case rstop=>
      intro D c BS I o hD hx hd;obtain rfl:=hx.ret;obtain⟨gs,Mo,f9⟩:=hx.at_;have HM:=WR FC.1;have hm:DD W.heap.size (D::R) o:=by
       have hm:=MH FC.1 hx.kept (λd C h=>by
        rcases lI.1 h with rfl|h
        .have:=FC.1.ge _ C;have:=Aa HN;omega
        .exact FC.2 d C h)
       refine⟨nL.2 ⟨λh=>by have:=HM D h;omega,hm.nodup⟩,λd C=>?_,λd C=>?_⟩
       .rcases lI.1 C with rfl|C
        .omega
        .have:=hm.ge d C;have:=Aa HN;omega
       .rcases lI.1 C with rfl|C
        .exact hd
        .exact hm.at_ d C
      refine wp_ret ?_;exact(NA _ (D::R) o hm (Hf ⟨gs,Mo,f9⟩)).1
    ·(have f5:¬(k:Int)<(L:Int):=by omega);have fn:JR (B2 XS M wr):=by
      have h:=Aa VS;rw[lH (by have:=Aa HL;omega),<-Aa LE]at h;exact h
     go_wp2;exact(NA _ R wr (by rw[Aa HN];exact SK.1) (Hd ⟨M,fn⟩)).2
