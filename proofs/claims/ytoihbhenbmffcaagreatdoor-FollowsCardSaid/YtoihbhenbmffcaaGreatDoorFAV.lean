import Derived.Test.YtoihbhenbmffcaaGreatDoorFAU
set_option linter.all false
set_option maxHeartbeats 0
open List renaming length->Z,toArray->ml,replicate->pG
open Option renaming none->Y,some->V
open Go.Value renaming slice->U,int->X,string->O,pointer->m2,agg->pC
open Go.IntKind renaming i64->J
open Bool renaming true->jj
open Go.Ending renaming returned->oa
open Or renaming inl->oi,inr->oj
open Go renaming World->py
open Go.RowKit renaming Hid->p7
open Go.World renaming cell?->p8
open Go.Act renaming put->pJ
namespace Go.Proofs.YtoihbhenbmffcaaGreatDoor
open Go.RowKit Go.Proofs.Tryz
variable{w v u:py}{n m:Nat}{f:pM Af}{P:Program}{Q:Exit->Act->py->Prop}{a:Act}{M:pM Nat}
def eJ{α β:Type}(f:α->pM β)(l:pM α)(k:Nat)(a:k<Z l):l.flatMap f=(l.take k).flatMap f++(f l[k]++(l.drop (k+1)).flatMap f):=by
 conv=>lhs;rw[<-mt k l,lM,lD a,lF]
def YX{α β:Type}(f:α->pM β)(l:pM α)(k:Nat)(a:k<Z l):(l.take (k+1)).flatMap f=(l.take k).flatMap f++f l[k]:=by
 rw[kW a,lM];simp
def gV{a:pM Br}{s:pM Af}(m:∀f∈s,AL f)(j:ZH s a)(v:UInt8)(e:pM zA):Z (Jc a s v e)<=Z s:=by
 have g:=Fk a s v e;cases hl:C5 a s v e with
 |nil=>
  cases ha:Jc a s v e with
  |nil=>simp
  |cons t l=>
   have h:=(g t).1 (by rw[ha];simp);exact absurd hl h.1
 |cons l ls=>
  have c:l∈C5 a s v e:=by rw[hl];simp
  have n:Z l<=Z s:=by
   unfold C5 at c;obtain⟨x,p,b⟩:=m3.1 c;by_cases d:(x.kind==97)=jj
   .rw[ln d,ot]at b;obtain⟨i,o,rfl⟩:=b;unfold GS;rw[lm];exact mS _ _
   .rw[li d]at b;cases b
  have:=NG (Jc a s v e) l (TE m j v e) (λt k=>((g t).1 k).2 l c);omega
def iw{a:pM Br}{b:pM UInt8}(h:dU w n a f b)(v:UInt8)(e:pM zA):Z (Jc a f v e)<=10000:=by
 obtain⟨u,o,x,m,k,p,d,t,j,q,l,g,r,i,c⟩:=h.at_;have:=gV c.canon h.fit v e;have:=h.len;omega
section
variable {P:Program} {ops:Array Oper} {Q:Exit->Act->py->Prop} {md:Region.Mode} {S:py->Prop} {k:Nat}
def CF.firstH{i:Nat}{n:Oper}{v:Value}(A:ops[i]?=V n)(G:∀(j:Nat) (o:Oper) p b,ops[j]?=V o->o.op≠ .select p b)
  (T:∀c a w,Q (.panic c) (a.put n.dst v) w->Q (.panic c) a w) (hW:ops.size<=k):
  ∀(r:Nat) (f:Array Bool) (a:Act) (w:py),
   (∀j m,ops[j]?=V m->j≠i->f.getD j jj=false->(∀e∈m.after,Region.binds md e=jj->e.on≠i)->n.apart ops m=jj)->
   i∈Region.ready md ops f->YieldsIf P ops S n v a->S w->
   CF P md ops Q S k r (f.setIfInBounds i jj) (a.put n.dst v) w->CF P md ops Q S k (r+1) f a w:=by
 intro r
 induction r with
 |zero=>
  intro f a w _ l u t H;refine⟨λh=>(by rw[h]at l;cases l),λj s=>?_⟩;by_cases d:j=i
  .subst d;exact u.wpOp A t ⟨λ_=>t,H⟩
  .have:=oZ s d;rw[H.1]at this;cases this
 |succ r ih=>
  intro f a w D l u t H;have F:=(mem_ready.1 l).1;refine⟨λh=>(by rw[h]at l;cases l),λj s=>?_⟩;by_cases d:j=i
  .subst d;exact u.wpOp A t ⟨λ_=>t,H⟩
  .have C:j≠k:=λe=>by
    obtain⟨_,o,ho,_⟩:=mem_ready.1 s;have:=(mc.1 ho).1;omega
   have h1:=H.2 j (oZ s d);obtain⟨B,m,y,A0⟩:=mem_ready.1 s;have Ax:∀e∈m.after,Region.binds md e=jj->e.on≠i:=λe he N R=>by
    have g:=A0 e he N;rw[R]at g;rcases Nat.lt_or_ge i f.size with z|z
    .simp[z]at F g;rw[F]at g;cases g
    .simp[ou z]at g
   have g:=wpOp_putIf y (D j m y d B Ax) (λp b=>G i n p b A) (λp b=>G j m p b y) T u h1;refine wpOp_mono (λa' M x=>⟨λ_=>x.2.1 C,ih (f.setIfInBounds j jj) a' M (λq oq W AT I L=>D q oq W AT ?_ L) (oZ l (Ne.symm d)) x.1 (x.2.1 C) ?_⟩) g
   .by_cases E:j=q
    .subst E;exact B
    .rw[getD_set_ne jj E]at I;exact I
   .rw[o9 _ _ d];exact x.2.2
def CF.yJ{i:Nat}{d:Oper}{v:Value}{e:Nat}{b:Array Bool}{a:Act}{w:py}(f:ops[i]?=V d)
  (o:Region.noSelect ops=jj) (g:Region.free md ops b i=jj) (n:(Region.ready md ops b).contains i=jj) (j:ops.size<=k)
  (p:∀c a w,Q (.panic c) (a.put d.dst v) w->Q (.panic c) a w) (m:S w) (l:YieldsIf P ops S d v a)
  (h:CF P md ops Q S k e (b.setIfInBounds i jj) (a.put d.dst v) w):CF P md ops Q S k (e+1) b a w:=
 CF.firstH f (Region.noSelect_spec o) p j e b a w (Region.free_spec f g) (by simpa using n) l m h
def CF.tkH{i:Nat}{d:Oper}{v:Value}{f:Nat}{e:Array Bool}{a:Act}{w:py}(n:ops[i]?=V d)(b:kc md ops e i (decide (ops.size<=k))=jj)
  (m:∀c a w,Q (.panic c) (a.put d.dst v) w->Q (.panic c) a w) (l:p7 (S w)) (g:Region.wanted d (yielded ops a.tmps)=jj) (j:∀w,S w->(execOp a.eval d).run P w=.ok (.value v) w)
  (h:CF P md ops Q S k f (e.setIfInBounds i jj) (a.put d.dst v) w):CF P md ops Q S k (f+1) e a w:=by
 unfold kc at b;simp only[lJ,nP]at b;exact CF.yJ n b.1.1.1 b.1.1.2 b.1.2 b.2 m l (oi ⟨g,j⟩) h
theorem CF.tqH{i:Nat}{b:Oper}{v:Value}{e:Nat}{d:Array Bool}{a:Act}{w:py}(n:ops[i]?=V b)(g:∀c a w,Q (.panic c) (a.put b.dst v) w->Q (.panic c) a w)(l:p7 (S w))(h:CF P md ops Q S k e (d.setIfInBounds i jj) (a.put b.dst v) w)(m:kc md ops d i (decide (ops.size<=k))=jj:=by kernel_rfl)(f:Region.wanted b (yielded ops a.tmps)=jj:=by rfl)
  (j:∀w,S w->(execOp a.eval b).run P w=.ok (.value v) w:=by(intro o p;(try go_split_ands);go_simp)):CF P md ops Q S k (e+1) d a w:=CF.tkH n m g l f j h
end
def gB(k:Nat)(h:k<=1000000):wrap64 ((k:Int)+1)=((k+1:Nat):Int):=by
 unfold wrap64;omega
def Kr(Q:Exit->Act->py->Prop):Exit->Act->py->Prop
 | .panic _,_,_=>False
 | .outgrown,_,_=>False
 |e,a,w=>Q e a w
def Gt{c:Code}(h:c.wp P (Kr Q) a w):c.wp P Q a w:=wp_mono h (λe a w h=>by
 cases e<;>first|exact h|exact h.elim)
structure Y7(M0:pM Nat)(w3:py)(M:pM Nat)(w:py):Prop where
 kept:Ac M0 w3 w
 mem:∀q∈M,(q∈M0\/w3.heap.size<=q)/\q<w.heap.size
def Y7.step{b M e:pM Nat}(h:Y7 b v M w)(k:Ac M w u)(d:∀q∈e,(q∈M\/w.heap.size<=q)/\q<u.heap.size):Y7 b v e u:=
 ⟨h.kept.trans' k (λi f=>(h.mem i f).1),λq c=>⟨by
  rcases(d q c).1 with a|a
  .exact(h.mem q a).1
  .exact oj (mp h.kept.size a),(d q c).2⟩⟩
structure Xn(J:pM (pM zA)->pM Nat->py->Prop)(l:Nat)(P0:pM (pM zA))(M:pM Nat)(w5:py)(pre:pM (pM zA))(M':pM Nat)(W:py):Prop where
 at_:∃Mo,M'=l::Mo/\J (P0++pre) Mo W/\Y7 M w5 Mo W
structure Xz(Jx:pM (pM zA)->pM Nat->py->Prop)(l:Nat)(M:pM Nat)(w5:py)(c:Code)(W:py):Prop where
 ret:c=.ret
 at_:∃pre Mo,Jx pre Mo W
 kept:Ac (l::M) w5 W
def Xn.own{d:pM (pM zA)->pM Nat->py->Prop}{f:pM (pM zA)}(o:OwnFrom n (fun(s:pM (pM zA)×pM Nat) W=>d s.1 s.2 W))(t:n<=w.heap.size):OwnFrom w.heap.size (fun(s:pM (pM zA)×pM Nat) W=>Xn d m f M w s.1 s.2 W):=λs A C j p b a=>by
 obtain⟨h,k,i,c⟩:=p.at_;refine⟨h,k,o (f++s.1,h) A C j i b (λr e=>⟨by have:=(a r e).1;omega,(a r e).2⟩),c.kept.grown b (λr e=>oj (a r e).1),λq g=>⟨(c.mem q g).1,mX (c.mem q g).2 b.size⟩⟩
def Xz.own{h:pM (pM zA)->pM Nat->py->Prop}(k:OwnFrom n (fun(s:pM (pM zA)×pM Nat) W=>h s.1 s.2 W))(o:n<=w.heap.size)(c:Code):OwnFrom w.heap.size (fun(s:pM (pM zA)×pM Nat) W=>Xz h m M w c W):=λs A C j b f a=>by
 obtain⟨d,g,i⟩:=b.at_;exact⟨b.ret,⟨d,g,k (d,g) A C j i f (λr e=>⟨by have:=(a r e).1;omega,(a r e).2⟩)⟩,b.kept.grown f (λr e=>oj (a r e).1)⟩
def GN{d:UInt8->pM zA->pM zA}{f:pM Br}{s:pM Af}:∀(c:pM UInt8) (e:pM zA),Z e=26->∀b∈Aw d f s c e,Z b=26
 |[],e,he,b,a=>by
  rw[Aw]at a;split at a
  .simp at a
  .rw[kY]at a;rw[a];exact he
 |v::c,e,he,b,a=>by
  rw[Aw]at a;split at a
  .simp at a
  .obtain⟨t,_,a⟩:=ma.1 a;exact GN c _ (by rw[mQ];exact he) b a
def MI{a:pM Nat}(h:Dv n a w)(k:Ac M w v)(c:∀D∈a,D∉M):Dv n a v:=
 ⟨h.nodup,h.ge,λD b=>(k.block D (mc.1 (h.at_ D b)).1 (c D b)).trans (h.at_ D b)⟩
def WP(h:Dv n M w):∀D∈M,D<w.heap.size:=λD a=>(mc.1 (h.at_ D a)).1
set_option maxRecDepth 100000
theorem US(G:Nat)(A:pM Br)(s:pM Af)(vs:pM UInt8)(w0:py)(M1:pM Nat)(Nd:∀f,Ac M1 w0 f->dU f G A s vs)(v:UInt8)(FT:pM UInt8)(m BA:Nat)(e:pM zA)(b1 b2 b3 b4:Nat)(w:py)(M0:pM Nat)(he:Di e)
  (HQ:m<BA) (f6:BA<=Z vs) (hv:vs[m]'(by omega)=v) (hB:Vf w0 M1 G b1 b2 b3 b4 m BA e M0 w)
  (ih:∀(e':pM zA) (c1 c2 c3 c4:Nat) (w':py) (M:pM Nat),Di e'->Vf w0 M1 G c1 c2 c3 c4 (m+1) BA e' M w'->
   Lx prog 176 #[m2 (V ⟨c1,0,Y⟩),m2 (V ⟨c2,0,Y⟩),m2 (V ⟨c3,0,Y⟩),m2 (V ⟨c4,0,Y⟩)] (λx=>#[pC (ml (Aj (Bn x)))]) (Aw (Jc A s) A s FT e') M w'):
  Lx prog 176 #[m2 (V ⟨b1,0,Y⟩),m2 (V ⟨b2,0,Y⟩),m2 (V ⟨b3,0,Y⟩),m2 (V ⟨b4,0,Y⟩)] (λx=>#[pC (ml (Aj (Bn x)))]) (Aw (Jc A s) A s (v::FT) e) M0 w:=by
 intro l CC Jx W IA ch em hJ SB hR d0;have hS:=Nd _ hB.kept;have KS:Ew v:=by rw[<-hv];exact hS.ok _ (kV _)
 have FF:=hB.grow IA;have K8:p7 (∀f,Ac [] W f->Calls prog 177 #[m2 (V ⟨G,0,Y⟩),pC (ml (Aj (Bn e)))] f λr w'=>r=oa (.bool (Eg A s e))/\Ac [] f w'):=λf p=>Uo (Nd _ (FF.kept.trans (p.mono (by simp)))) he
 have HZ:p7 (∀f,Ac [] W f->Calls prog 178 #[m2 (V ⟨G,0,Y⟩),X .i32 (v.toNat:Int),pC (ml (Aj (Bn e)))] f λr w'=>∃(ad:Option Addr) (cp:Nat),r=oa (U ad (Z ((Jc A s v e).map AE)) cp)/\
   w'.ownsRow f.heap.size 170 1 (U ad (Z ((Jc A s v e).map AE)) cp) (Z ((Jc A s v e).map AE)) (((Jc A s v e).map AE).flatMap Ah)/\Ac [] f w'):=λf p=>VT (Nd _ (FF.kept.trans (p.mono (by simp)))) he KS
 have hc:=Bp (Bn e);have NS:Z (Aj (Bn e))=26:=by unfold Aj;rw[lm];exact Iv he
 have M2:=Ab NS;have a6:p7 (∀u∈Aj (Bn e),u.oneCell'=jj):=by
  intro u hu;unfold Aj at hu;obtain⟨y,_,rfl⟩:=lk.1 hu;rfl
 have HX:p7 (Aw (Jc A s) A s (v::FT) e=if Eg A s e then[] else(Jc A s v e).flatMap λt=>Aw (Jc A s) A s FT (e.set (v.toNat-65) t)):=by show _=_;rw[Aw]
 have al:p7 (∀t∈Jc A s v e,A8 t):=cG hS v e;have U0:p7 (Z (Jc A s v e)<=10000):=iw hS v e;have N0:p7 (∀t,A8 t->Di (e.set (v.toNat-65) t)/\Aj (Bn (e.set (v.toNat-65) t))=(Aj (Bn e)).set (v.toNat-65) (O (AE t))):=λt ht=>⟨he.set _ ht,by rw[gN e _ ht];unfold Aj;rw[px]⟩
 obtain⟨kb,ko,bv,og,KA,YP,RE⟩:=cN hS m (by omega)
 rw[hv]at RE;have Dk:p7 (∀f,Ac [] W f->p8 f ⟨G,2,Y⟩=V (U (V ⟨og,0,Y⟩) (Z vs) KA)/\p8 f ⟨og,m,Y⟩=V (X .i32 (v.toNat:Int))):=λf p=>by
  have h1:=(YP.kept (IA.trans p)).cell 2;simp at h1;exact⟨h1,(IA.trans p).cellAt RE⟩
 have g7:=Ab ih;have TS:=Ab hR;have HJ:=Ab hJ;have g6:=Ab SB;have e1:=Ab d0;have HB:=Ab FF;have fl:p7 (w.heap.size<=l/\l<W.heap.size/\Ac [] w W/\Vf w0 M1 G b1 b2 b3 b4 m BA e M0 w):=⟨ch,em,IA,hB⟩
 have hA:=Ab KS;obtain⟨j,hj⟩:∃j:Nat,v.toNat-65=j:=⟨_,rfl⟩;have cs:p7 ((v.toNat:Int)=(j:Int)+65/\j<26):=by
  obtain⟨h1,h2⟩:=KS;exact⟨by omega,by omega⟩
 rw[hj]at HX N0;obtain⟨B,bp⟩:=pN (Jc A s v e);rw[bp]at HX al HZ U0;obtain⟨H,LB⟩:∃H:zA->pM (pM zA),(λt=>Aw (Jc A s) A s FT (e.set j t))=H:=⟨_,rfl⟩;have e4:p7 (∀t,Aw (Jc A s) A s FT (e.set j t)=H t):=λt=>by rw[<-LB]
 have WW:p7 (∀t,∀x∈H t,Z x=26):=λt x hx=>by
  rw[<-LB]at hx;exact GN FT _ (by rw[mQ];exact he.len) x hx
 rw[LB]at HX;obtain⟨XS,ef⟩:=pN (Aw (Jc A s) A s (v::FT) e);rw[ef]at HX TS⊢;obtain⟨F,hF⟩:=pN (Eg A s e);rw[hF]at HX K8;obtain⟨E,hE⟩:=pN (Aj (Bn e));have f0:=Ab hE;have RB:=FF.bound;rw[hE]at hc NS M2 a6 K8 HZ N0 RB;have eT:=Aa cs;rw[eT.1]at HZ Dk;have c1:=FF.s.cell 0;have c3:=FF.fr.cell 0;have c4:=FF.yQ.cell 0;simp at c1 c3 c4;have S1:p7 (∀f,Ac [] W f->AF f b2 E 243/\p8 f ⟨b1,0,Y⟩=V (m2 (V ⟨G,0,Y⟩))/\p8 f ⟨b3,0,Y⟩=V (X J m)/\p8 f ⟨b4,0,Y⟩=V (X J BA)):=λf p=>⟨RB.kept p,p.cellAt c1,p.cellAt c3,p.cellAt c4⟩
 have hO:((m:Int)==(BA:Int))=false:=by simp;omega
 have hw:(0:Int)<=(m:Int):=by omega
 have hg:(m:Int)<(Z vs:Int):=by omega
 have e7:=hS.yB;have hP:IntKind.i64.wrap ((m:Int)+1)=(m:Int)+1:=by rw[nB];omega
 obtain⟨VL,a2⟩:=pN (Z vs);rw[a2]at hg Dk;have NY:p7 (∀k∈M0,k<W.heap.size/\k≠b1/\k≠b2/\k≠b3/\k≠b4):=λk p=>by
  obtain⟨_,h2,h3,h4,h5,h6⟩:=FF.apart k p;exact⟨h6,h2,h3,h4,h5⟩
 obtain⟨QQ,Nx⟩:=pN (Kr (bodyPostM Fence.wide 0 prog Tryz.f176 λe o=>(∃v,e=oa v)/\((∃I,CC XS I o)\/(∃B2 I,Jx B2 I o))));have B0:p7 (∀c a w,¬QQ (.panic c) a w):=by
  intro c a w h;rw[<-Nx]at h;exact h
 have NB:p7 (∀(LC:Array Value) (R:pM Nat) (f:py),Dv W.heap.size R f->((∃I,CC XS I f)\/(∃B2 I,Jx B2 I f))->QQ .ret ⟨LC,R.map EA⟩ f/\QQ .normal ⟨LC,R.map EA⟩ f):=by
  intro LC R f hm hp;rw[<-Nx];have eB:LeavesInM Fence.wide 0 prog Tryz.f176 LC (λe o=>(∃v,e=oa v)/\((∃I,CC XS I o)\/(∃B2 I,Jx B2 I o))) (R.map EA) .returning f:=by
   refine Du R f hm (λw' hs=>⟨_,oL rfl _ _ _,⟨_,rfl⟩,?_⟩);rcases hp with⟨I,h⟩|⟨B2,I,h⟩
   .exact oi ⟨I,hs.own hJ (s:=(XS,I)) hm h⟩
   .exact oj ⟨B2,I,hs.own SB (s:=(B2,I)) hm h⟩
  exact⟨eB,eB⟩
 have H5:=Ab ((pO [] W).alloc (.cells #[.func (.yield l) #[] #[]] 279));have MN:=Ab (pP W [.func (.yield l) #[] #[]] 279);show Calls prog 176 #[.func (.yield l) #[] #[],m2 (V ⟨b1,0,Y⟩),m2 (V ⟨b2,0,Y⟩),m2 (V ⟨b3,0,Y⟩),m2 (V ⟨b4,0,Y⟩)] W _;refine EC func176 rfl (Gt ?_);rw[Nx];clear Nx hB FF RB hR hJ d0 SB ef hE hF c1 c3 c4 IA ch em ih hS Nd he hv KS YP RE hj bp LB a2 eT f6 e7 HQ;simp only[ntmps176,mE,lj,lO,Nat.reduceAdd,Nat.reduceSub,nL,nM,oh,nR,mw,mV];refine pL (λK1 P=>?_);go_wp2;refine P _ _ ?_;clear P K1;change Code.wp _ _ _ _ (W.alloc (.cells [.func (.yield l) #[] #[]].toArray 279));generalize hw1:W.alloc (.cells [.func (.yield l) #[] #[]].toArray 279)=w1 at H5 MN⊢;clear hw1;obtain⟨N,hN⟩:=pN W.heap.size;have HN:=Ab hN;rw[hN]at MN⊢;clear hN;obtain⟨q2,q1,q3,q4⟩:=S1 w1 H5;have c8:=Ab (K8 w1 H5);have c0:=Ab q2;clear q2;refine pL (λK1 P=>?_);go_wp2_with ((with_reducible show wpList _ _ _ ({dst:=_,op:=Op.load 243 _,type:=_,pos:=_,after:=_,guard:=_}::_) _ _);refine BR (by rfl) 243 _ rfl b2 0 (by rfl) E _ c0.range underlying243 rfl (by rw[Aa M2];exact Tryz.zG) ?_)
 refine c8.mono ?_;rintro _ w2 ⟨rfl,k2⟩;have H9:=Ab (H5.trans k2);have br:=Ab (MN.kept k2);have Os:p7 (CC [] M0 w2):=BI HJ (s:=([],M0)) e1 H9;clear k2 q1 q3 q4 c0 c8 K8 H5 MN;cases F with
 |true=>
  have LL:p7 (XS=[]):=by show _=_;rw[Aa HX,ln rfl]
  go_wp2;exact(NB _ [] w2 ⟨nG,λ_ h=>by simp at h,λ_ h=>by simp at h⟩ (oi ⟨M0,by rw[Aa LL];exact Os⟩)).1
 |false=>
  have LL:p7 (XS=B.flatMap H):=by show _=_;rw[Aa HX,li (by simp)]
  clear HX;go_wp2;refine P _ _ ?_;clear P K1;obtain⟨r2,r1,r3,r4⟩:=S1 w2 H9;clear r2;refine pL (λK1 P=>?_);go_wp2;refine P _ _ ?_;clear P K1;obtain⟨o1,o2⟩:=Dk w2 H9;refine pL (λK1 P=>?_)
  .refine CH 7 (λf=>p8 f ⟨b1,0,Y⟩=V (m2 (V ⟨G,0,Y⟩))/\p8 f ⟨b3,0,Y⟩=V (X J m)/\p8 f ⟨G,2,Y⟩=V (U (V ⟨og,0,Y⟩) VL KA)/\p8 f ⟨og,m,Y⟩=V (X .i32 ((j:Int)+65))) (by kernel_rfl) ?_
   have Ax:p7 (p8 w2.drew ⟨b1,0,Y⟩=V (m2 (V ⟨G,0,Y⟩))/\p8 w2.drew ⟨b3,0,Y⟩=V (X J m)/\p8 w2.drew ⟨G,2,Y⟩=V (U (V ⟨og,0,Y⟩) VL KA)/\p8 w2.drew ⟨og,m,Y⟩=V (X .i32 ((j:Int)+65))):=⟨r1,r3,o1,o2⟩
   refine CF.tq (i:=0) (v:=m2 (V ⟨G,0,Y⟩)) rfl (BD B0) Ax ?_;simp only[pJ,kR,kT,kU];refine CF.tq (i:=1) (v:=m2 (V ⟨G,0,Y⟩)) rfl (BD B0) Ax ?_;simp only[pJ,kR,kT,kU];refine CF.tq (i:=2) (v:=m2 (V ⟨G,2,Y⟩)) rfl (BD B0) Ax ?_;simp only[pJ,kR,kT,kU];refine CF.tq (i:=3) (v:=U (V ⟨og,0,Y⟩) VL KA) rfl (BD B0) Ax ?_;simp only[pJ,kR,kT,kU];refine CF.tq (i:=4) (v:=X J m) rfl (BD B0) Ax ?_
   simp only[pJ,kR,kT,kU];refine CF.tq (i:=5) (v:=m2 (V ⟨og,m,Y⟩)) rfl (BD B0) Ax ?_;simp only[pJ,kR,kT,kU];refine CF.tq (i:=6) (v:=X .i32 ((j:Int)+65)) rfl (BD B0) Ax ?_;simp only[pJ,kR,kT,kU];refine CF.one (i:=7) (by kernel_rfl) rfl (λHS hK=>?_)
   go_simp
   refine hK.out _ _ (λh=>absurd rfl h) ?_;clear hK HS;refine CF.done (by kernel_rfl) ?_ _
   try simp only[pJ,kR,kT,kU]
   refine P _ _ ?_;clear P K1 Ax r1 r3 r4 o1 o2;have HF:=Ab (H9.drew);have PT:p7 (CC [] M0 w2.drew):=BI HJ (s:=([],M0)) Os (pO [] w2).drew;have NA:=Ab (br.drew);generalize w2.drew=w2d at HF PT NA⊢;clear H9 Os br;obtain⟨r2,r1,r3,r4⟩:=S1 w2d HF;have a4:=Ab r2;have c9:=Ab (HZ w2d HF);clear r2 HZ;go_wp2_with ((with_reducible show wpList _ _ _ ({dst:=_,op:=Op.load 243 _,type:=_,pos:=_,after:=_,guard:=_}::_) _ _);refine BR (by rfl) 243 _ rfl b2 0 (by rfl) E _ a4.range underlying243 rfl (by rw[Aa M2];exact Tryz.zG) ?_)
   refine c9.mono ?_;rintro _ w3 ⟨ad,cp,rfl,bt,k3⟩;have K7:=Ab (HF.trans k3);have a0:p7 (CC [] M0 w3):=BI HJ (s:=([],M0)) PT k3;have c7:=Ab (NA.kept k3);have cv:=Ab (Am bt (show W.heap.size<=w2d.heap.size from HF.size))
   obtain⟨L,hL⟩:=pN (Z (B.map AE));(have HL:p7 (Z B=L):=by show _=_;rw[<-hL,lm]);rw[hL]at cv⊢;clear bt k3 hL c9 HF PT NA r1 r3 r4 a4;have b9:p7 (∀f,Ac M0 w3 f->AF f b2 E 243/\AF f b1 [m2 (V ⟨G,0,Y⟩)] 233/\AF f b3 [X J m] 3/\AF f b4 [X J BA] 3/\AF f N [.func (.yield l) #[] #[]] 279/\f.ownsRow N 170 1 (U ad L cp) L ((B.map AE).flatMap Ah)):=by
    intro f p;have hb:=HB.grow K7;have cL:=hb.bound;rw[Aa f0]at cL;have HR:=Aa NY;have hn:=Aa HN;refine⟨cL.kept p (λh=>(HR _ h).2.2.1 rfl),hb.s.kept p (λh=>(HR _ h).2.1 rfl),hb.fr.kept p (λh=>(HR _ h).2.2.2.1 rfl),hb.yQ.kept p (λh=>(HR _ h).2.2.2.2 rfl),c7.kept p (λh=>by have:=(HR _ h).1;omega),?_⟩;have hr:=Aa cv;rw[hn]at hr;exact Ai hr p (λi S hm=>by have h1:=(hr.lt i S).1;have h2:=(HR i hm).1;omega)
   (go_wp2_with fail);refine wp_loop_ghost_k (λgk a wr=>∃(k:Nat) (M R:pM Nat) (y7 y8 y9 cb a8 UO ap W1 X3 b6 c5 cz er eA db W3 aT ea X1 dT a7 a1 VS af X0 ba ar df cB a5 cR cf ce ab Wa bz bn bd an ag:Value),a=⟨#[.func (.yield l) #[] #[],m2 (V ⟨b1,0,Y⟩),m2 (V ⟨b2,0,Y⟩),m2 (V ⟨b3,0,Y⟩),m2 (V ⟨b4,0,Y⟩),m2 (V ⟨N,0,Y⟩),X .i32 ((j:Int)+65),y7,y8,y9,cb,a8,UO,ap,W1,X3,b6,c5,cz,er,eA,db,W3,aT,ea,X1,dT,a7,a1,U ad L cp,X J L,X J k,VS,af,X0,ba,ar,df,cB,a5,cR,cf,ce,ab,Wa,bz,bn,bd,an,ag],R.map EA⟩/\k<=L/\gk=L-k/\p7 (CC ((B.take k).flatMap H) M wr)/\p7 (Y7 M0 w3 M wr)/\p7 (Dv N R wr/\∀D∈R,D∉M)) L ?start ?round
   case start=>
    refine⟨0,M0,[],_,_,_,_,_,_,_,_,_,_,_,_,_,_,_,_,_,_,_,_,_,_,_,_,_,_,_,_,_,_,_,_,_,_,_,_,_,_,_,_,rfl,by omega,rfl,by rw[oA];exact a0,⟨pO _ _,λq z=>⟨oi z,?_⟩⟩,⟨⟨nG,λ_ h=>by simp at h,λ_ h=>by simp at h⟩,λ_ h=>by simp at h⟩⟩;have h1:=(NY q z).1;have h2:=K7.size;omega
   case round=>
    rintro gk a wr ⟨k,M,R,y7,y8,y9,cb,a8,UO,ap,W1,X3,b6,c5,cz,er,eA,db,W3,aT,ea,X1,dT,a7,a1,VS,af,X0,ba,ar,df,cB,a5,cR,cf,ce,ab,Wa,bz,bn,bd,an,ag,rfl,p,b5,WB,HC,SP⟩ JJ KK b7 dc;have HG:=Ab b5;have gv:=Ab b7;have fk:=Ab dc;clear b5 b7 dc a0;by_cases e6:k<L
    .obtain⟨s2,s1,s3,s4,s5,s6⟩:=b9 wr HC.kept;(have Nq:k<Z B:=by have:=Aa HL;omega);obtain⟨g,hH,SL,KB⟩:=GA (l:=B.map AE) (by rw[lm,Aa HL];exact s6) k (by rw[lm];exact Nq);rw[lm,Aa HL]at SL;simp only[kS]at SL;obtain⟨rfl,-,rfl⟩:=SL;rw[List.getElem_map]at KB;obtain⟨t,ht⟩:=pN (B[k]);rw[ht]at KB;(have U1:A8 t:=by rw[<-ht];exact al _ (kV Nq));obtain⟨NL,ST⟩:=N0 t U1;(have fp:p7 (XS=(B.take k).flatMap H++(H t++(B.drop (k+1)).flatMap H)):=by show _=_;rw[Aa LL,eJ H B k Nq,ht]);(have fs:p7 ((B.take (k+1)).flatMap H=(B.take k).flatMap H++H t):=by show _=_;rw[YX H B k Nq,ht]);have ao:=Ab ST;have gt:=Ab NL;(have hC:(0:Int)<=(k:Int):=by omega);(have f8:(k:Int)<(L:Int):=by omega);have hY:=Ab s2;have c1:=s1.cell 0;have c3:=s3.cell 0;have c4:=s4.cell 0;simp at c1 c3 c4;have M3:p7 (∀f,Ac [] wr f->f.rangeAt b2 0 E/\Ac [] wr f/\p8 f ⟨b1,0,Y⟩=V (m2 (V ⟨G,0,Y⟩))/\p8 f ⟨b3,0,Y⟩=V (X J m)/\p8 f ⟨b4,0,Y⟩=V (X J BA)):=λf p=>⟨(s2.kept p).range,p,p.cellAt c1,p.cellAt c3,p.cellAt c4⟩
     (have NX:p7 (∀f,Calls prog 179 #[pC (ml E),X .i32 ((j:Int)+65),O (AE t)] f λr w'=>r=oa (pC (ml (E.set j (O (AE t)))))/\Ac [] f w'):=λf=>bH E j (AE t) f NS cs.2 hc a6);have RI:p7 (∀f,Calls prog 141 #[m2 (V ⟨G,0,Y⟩),X J ((m:Int)+1),X J BA,pC (ml (E.set j (O (AE t))))] f λr w'=>∃b1 b2 b3 b4,r=oa (.func (.func 176) #[] #[m2 (V ⟨b1,0,Y⟩),m2 (V ⟨b2,0,Y⟩),m2 (V ⟨b3,0,Y⟩),m2 (V ⟨b4,0,Y⟩)])/\
       AF w' b1 [m2 (V ⟨G,0,Y⟩)] 233/\AF w' b2 (E.set j (O (AE t))) 243/\AF w' b3 [X J ((m+1:Nat):Int)] 3/\AF w' b4 [X J BA] 3/\(f.heap.size<=b1/\f.heap.size<=b2/\f.heap.size<=b3/\f.heap.size<=b4)/\Ac [] f w'):=λf=>by
      have h:=IQ G (m+1) BA (Aj (Bn (e.set j t))) f (Bp _) (by unfold Aj;rw[lm];exact Iv NL);rw[ST]at h;rw[show((m:Int)+1)=((m+1:Nat):Int) by omega];exact h
     clear ht U1 NL ST s1 s3 s4 s5 s6 s2 c1 c3 c4;generalize AE t=tb at KB NX RI ao;refine pL (λK1 P=>?_);go_wp2;refine P _ _ ?_;clear P K1;refine pL (λK1 P=>?_);go_wp2;refine P _ _ ?_;clear P K1;refine pL (λK5 bs=>?_);refine wp_block ?_;refine pL (λK1 P=>?_);go_wp2;refine P _ _ ?_;clear P K1 KB;refine pL (λK6 b0=>?_);refine CH 9 (λf=>f.rangeAt b2 0 E/\Ac [] wr f/\p8 f ⟨b1,0,Y⟩=V (m2 (V ⟨G,0,Y⟩))/\p8 f ⟨b3,0,Y⟩=V (X J m)/\p8 f ⟨b4,0,Y⟩=V (X J BA)) (by kernel_rfl) ?_
     have Ax:=Ab (M3 wr.drew (pO [] wr).drew);refine CF.tqH (i:=0) (v:=m2 (V ⟨G,0,Y⟩)) rfl (BD B0) Ax ?_;simp only[pJ,kR,kT,kU];refine CF.tqH (i:=1) (v:=X J m) rfl (BD B0) Ax ?_
     simp only[pJ,kR,kT,kU];refine CF.tqH (i:=2) (v:=X J ((m:Int)+1)) rfl (BD B0) Ax ?_;simp only[pJ,kR,kT,kU];refine CF.tqH (i:=3) (v:=X J BA) rfl (BD B0) Ax ?_;simp only[pJ,kR,kT,kU];refine CF.yJ (i:=4) (v:=pC (ml E)) rfl (by kernel_rfl) (by kernel_rfl) (by kernel_rfl) (by decide) (λ_ _ _ h=>absurd h (B0 _ _ _)) Ax (yieldsIf_load_mid (by rfl) 243 _ rfl b2 0 (by rfl) E _ (λf hz=>hz.1) underlying243 rfl (by rw[Aa M2];exact Tryz.zG)) ?_;simp only[pJ,kR,kT,kU];refine CF.tqH (i:=5) (v:=X .i32 ((j:Int)+65)) rfl (BD B0) Ax ?_;simp only[pJ,kR,kT,kU];refine CF.tqH (i:=6) (v:=O tb) rfl (BD B0) Ax ?_;simp only[pJ,kR,kT,kU];refine CF.one (i:=7) (by kernel_rfl) rfl (λHS hK=>?_)
     go_simp
     refine(NX _).mono ?_;rintro _ w4 ⟨rfl,k4⟩;have SJ:Ac [] wr w4:=(pO [] wr).drew.trans k4;refine hK.out _ _ (λ_=>M3 w4 SJ) ?_;clear hK HS;have ZV:=Ab SJ;clear k4 SJ
     try simp only[pJ,kR,kT,kU]
     refine CF.one (i:=8) (by kernel_rfl) rfl (λHS hK=>?_)
     go_simp
     refine(RI _).mono ?_;rintro _ w5 ⟨d1,d2,d3,d4,rfl,n1,n2,n3,n4,f9,k5⟩;have H8:Ac [] wr w5:=ZV.trans k5;refine hK.out _ _ (λ_=>M3 w5 H8) ?_;clear hK HS;refine CF.done (by kernel_rfl) ?_ _
     try simp only[pJ,kR,kT,kU]
     refine b0 _ _ ?_;clear b0 K6 Ax NX RI M3;(have LM:∀q∈M,q<wr.heap.size:=λq z=>(HC.mem q z).2);have g8:=Aa fl;have h9:=k5.size;have hh:=ZV.size;have hQ:=HC.kept.size;have hI:=K7.size;have fn:Vf w0 M1 G d1 d2 d3 d4 (m+1) BA (e.set j t) (l::M) w5:=by
      refine⟨?_,n1,by rw[Aa ao];exact n2,n3,n4,λq z=>?_⟩
      .exact(HB.kept.trans (K7.mono (by simp))).trans' (HC.kept.trans (H8.mono (by simp))) (λi S=>(HB.apart i S).1)
      .have gy:(q∈M1\/w0.heap.size<=q)/\q<wr.heap.size:=by
        have h0:=HB.kept.size;rcases kZ.1 z with rfl|z
        .have h1:=g8.2.2.2.kept.size;exact⟨oj (by omega),by omega⟩
        .refine⟨?_,LM q z⟩;rcases(HC.mem q z).1 with h|h
         .exact(HB.apart q h).1
         .exact oj (by omega)
       obtain⟨g1,g2,g3,g4⟩:=f9;exact⟨gy.1,by omega,by omega,by omega,by omega,by omega⟩
     have cx:=Aa g7 (e.set j t) d1 d2 d3 d4 w5 (l::M) gt fn;rw[Aa e4 t]at cx;have gj:CC ((B.take k).flatMap H) M w5:=BI HJ (s:=((B.take k).flatMap H,M)) WB H8;have d7:p7 (Y7 M0 w3 M w5):=HC.step (H8.mono (by simp)) (λq z=>⟨oi z,by have:=LM q z;omega⟩);have FL:p7 (Dv N R w5/\∀D∈R,D∉M):=⟨MI SP.1 H8 (λ_ _ h=>by simp at h),SP.2⟩;(have cl:W.heap.size<=w5.heap.size:=by omega);refine wp_block ?_;refine Jh (T:=243) (q:=9) rfl (enters_of func176 (by kernel_rfl) rfl) cx (λq z=>by
      rcases kZ.1 z with rfl|z
      .omega
      .have:=LM q z;omega) (Xn CC l ((B.take k).flatMap H) M w5) (λc _ _ o=>Xz Jx l M w5 c o) (Xn.own HJ cl) (λc=>Xz.own g6 cl c) ⟨M,rfl,by rw[lU];exact gj,pO _ _,λq z=>⟨oi z,by have:=LM q z;omega⟩⟩ ?rassign ?rbody ?rdone ?rstop
     case rassign=>
      intro l' x o HS hx HK;(have FO:Z (Aj (Bn x))=26:=by unfold Aj Bn;rw[lm,lm];exact WW t x hx);have aa:p7 (∀u∈Aj (Bn x),u.oneCell'=jj):=by
       intro u hu;unfold Aj at hu;obtain⟨y,_,rfl⟩:=lk.1 hu;rfl
      obtain⟨EX,H1⟩:=pN (Aj (Bn x));rw[H1]at FO aa HK⊢;have RO:=Ab FO;(have en:p7 (EX.toArray.size=26):=by show _=_;simp[FO]);clear hx H1 FO;simp only[kR,kT,kU]at HK⊢;refine AM (by rfl) (Iw Gz) ?_;go_wp2_with ((with_reducible show wpList _ _ _ ({dst:=_,op:=Op.store 243 _ _,type:=_,pos:=_,after:=_,guard:=_}::_) _ _);refine nj rfl 243 _ _ rfl o.heap.size 0 (ml EX) (by rfl) (by rfl) ?_ ?_ ?_ ?_)
      .have h:=(pP o (pG 26 (O ⟨#[]⟩)) 243).there;simp only[m9]at h;rw[Aa en];exact h
      .rw[Aa en];exact Tryz.zG
      .exact mL aa
      .refine HK _ (((pO [] o).alloc (.cells (ml (pG 26 (O ⟨#[]⟩))) 243)).zI (b:=o.heap.size) (oj (lC _)) EX 0) ?_;exact(pP o (pG 26 (O ⟨#[]⟩)) 243).zP EX (by rw[Aa RO];simp)
     case rbody=>
      intro l' Bx B2 x g0 I o RT S f7 hW OH;obtain⟨Mo,rfl,EK,E0⟩:=S.at_;have et:AF o N [.func (.yield l) #[] #[]] 279:=by
       have h5:=(b9 w5 d7.kept).2.2.2.2.1;refine h5.kept E0.kept (λh=>?_);rcases(HC.mem N h).1 with h|h
       .have:=(NY N h).1;have:=Aa HN;omega
       .have h7:=c7.lt;omega
      have HY:=Ab (TS ((B.take k).flatMap H++B2) x (g0++(B.drop (k+1)).flatMap H) Mo o (by rw[Aa fp,RT];simp) EK);have cy:=et.cell 0;simp at cy;(have FO:Z (Aj (Bn x))=26:=by unfold Aj Bn;rw[lm,lm];exact WW t x (by rw[RT];simp));obtain⟨EX,H1⟩:=pN (Aj (Bn x));simp only[H1]at FO OH HY⊢;have fa:=Ab OH;have RO:=Ab FO;have HU:=Ab E0;clear S OH FO et EK E0 f7 H1 RT;simp only[kR,kT,kU];refine wpIn_block ?_;refine mM (λK3 X2=>?_);have LS:=Ab X2;clear X2;refine Qa (n:=0) 2 (by rfl) (by rintro ⟨_,_,h⟩;exact h) (λK2 av=>?_);simp only[nQ,oA];go_wp2_with ((with_reducible show wpList _ _ _ ({dst:=_,op:=Op.load 243 _,type:=_,pos:=_,after:=_,guard:=_}::_) _ _);refine BR (by rfl) 243 _ rfl Bx 0 (by rfl) EX _ fa.range underlying243 rfl (by rw[Aa RO];exact Tryz.zG) ?_)
      refine av _ _ ?_;clear av K2;simp only[om,oF];refine J6 (F:=Fence.wide.inRound l') (λ_=>trivial) rfl rfl (l:=l) (args:=#[pC (ml EX)]) (by rfl) (by first|(simp[go_sem,Oper.semAt];done)|(simp[go_sem,Oper.semAt,execOp,resolve,invoke];done)) HY ?_;rintro r w6 (⟨rfl,M6,EK,HA,LE⟩|⟨rfl,M6,EK,HA⟩)
      .refine⟨_,rfl,KO (by rfl) (by rintro ⟨_,_,h⟩;exact h) ?_⟩;simp only[pJ,kR,kT,kU];have HP:p7 (LP (Xn CC l ((B.take k).flatMap H) M w5) (λc _ _ o=>Xz Jx l M w5 c o) (B2++[x]) (l::Mo) o .normal ⟨#[],[]⟩ w6):=by
        (have e5:l<w6.heap.size:=by have:=HA.size;have:=HU.kept.size;omega);refine⟨HA.mono (λi S=>lY _ S),l::M6,⟨M6,rfl,by rw[<-mo];exact EK,HU.step HA LE⟩,λq z=>?_⟩;rcases kZ.1 z with rfl|z
        .exact⟨oi (mz ..),e5⟩
        .refine⟨?_,(LE q z).2⟩;rcases(LE q z).1 with h|h
         .exact oi (lY _ h)
         .exact oj h
       clear EK HA LE HY;go_wp2;refine LS _ _ ?_;clear LS K3;refine nW rfl (wpIn_skip ?_);exact HP
      .refine⟨_,rfl,KO (by rfl) (by rintro ⟨_,_,h⟩;exact h) ?_⟩;simp only[pJ,kR,kT,kU];have HP:p7 (LP (Xn CC l ((B.take k).flatMap H) M w5) (λc _ _ o=>Xz Jx l M w5 c o) (B2++[x]) (l::Mo) o .ret ⟨#[],[]⟩ w6):=by
        refine⟨HA,M6,rfl,⟨_,M6,EK⟩,?_⟩;refine(HU.kept.mono (N:=l::M) (λi S=>lY _ S)).trans' HA (λi S=>?_);rcases kZ.1 S with rfl|S
        .exact oi (mz ..)
        .exact((HU.mem i S).1).imp (λh=>lY _ h) id
       clear EK HA HY;go_wp2;refine LS _ _ ?_;clear LS K3;refine n7 rfl (wpIn_ret ?_);exact HP
     case rdone=>
      intro D I o hD S hd gp;obtain⟨Mo,rfl,EK,E0⟩:=S.at_;have HU:p7 (Y7 M0 w3 Mo o):=d7.step E0.kept E0.mem;(have e2:=λq (z:q∈Mo)=>(E0.mem q z).1);have gb:p7 (Dv N (D::R) o/\∀d∈D::R,d∉Mo):=by
       have hm:=MI FL.1 E0.kept FL.2;have HQ:=WP FL.1;refine⟨⟨nh.2 ⟨λh=>by have:=HQ D h;omega,hm.nodup⟩,λd C=>?_,λd C=>?_⟩,λd C VR=>?_⟩
       .rcases kZ.1 C with rfl|C
        .have:=Aa HN;omega
        .exact hm.ge d C
       .rcases kZ.1 C with rfl|C
        .exact hd
        .exact hm.at_ d C
       .rcases kZ.1 C with rfl|C
        .exact gp _ (lY _ VR) rfl
        .rcases(E0.mem d VR).1 with h|h
         .exact FL.2 d C h
         .have:=HQ d C;omega
      (have gz:p7 (CC ((B.take (k+1)).flatMap H) Mo o):=by rw[Aa fs];exact EK);clear S EK E0 e2;refine bs _ _ ?_;clear bs;go_wp2;refine fk _ _ (Handed.intro (L-(k+1)) (by have:=Aa HG;omega) (gv _ _ _ ?_));have gx:wrap64 ((k:Int)+1)=((k+1:Nat):Int):=gB k (by have:=Aa U0;have:=Aa HL;omega);rw[gx];exact⟨k+1,Mo,D::R,_,_,_,_,_,_,_,_,_,_,_,_,_,_,_,_,_,_,_,_,_,_,_,_,_,_,_,_,_,_,_,_,_,_,_,_,_,_,_,_,rfl,e6,rfl,gz,HU,gb⟩
     case rstop=>
      intro D c B2 I o hD hx hd;obtain rfl:=hx.ret;obtain⟨gw,Mo,gf⟩:=hx.at_;have HQ:=WP FL.1;have hm:Dv W.heap.size (D::R) o:=by
       have hm:=MI FL.1 hx.kept (λd C h=>by
        rcases kZ.1 h with rfl|h
        .have:=FL.1.ge _ C;have:=Aa HN;omega
        .exact FL.2 d C h)
       refine⟨nh.2 ⟨λh=>by have:=HQ D h;omega,hm.nodup⟩,λd C=>?_,λd C=>?_⟩
       .rcases kZ.1 C with rfl|C
        .omega
        .have:=hm.ge d C;have:=Aa HN;omega
       .rcases kZ.1 C with rfl|C
        .exact hd
        .exact hm.at_ d C
      refine wp_ret ?_;exact(NB _ (D::R) o hm (oj ⟨gw,Mo,gf⟩)).1
    ·(have f8:¬(k:Int)<(L:Int):=by omega);have fv:p7 (CC XS M wr):=by
      have h:=Aa WB;rw[kX (by have:=Aa HL;omega),<-Aa LL]at h;exact h
     go_wp2;exact(NB _ R wr (by rw[Aa HN];exact SP.1) (oi ⟨M,fv⟩)).2
