import Derived.RangeFuncBound
import Derived.Test.YtoihbhenbmffcaaGreatDoorTAS
set_option linter.all false
set_option maxHeartbeats 0
open List renaming length->Z,toArray->j2,replicate->qV
open Option renaming none->Y,some->V
open Go.Value renaming slice->U,int->X,string->O,pointer->j3,agg->oj,bool->q8
open Bool renaming false->K,true->jj
open Go.IntKind renaming i64->J
open Go.Obj renaming cells->j1
open Go.Ending renaming returned->kt
open Or renaming inl->lo,inr->lx
open Go renaming World->ly,Value->ml
open Go.RowKit renaming Hid->nc
open Go.World renaming cell?->oa,ownsRow->oi
open Go.Act renaming put->qY
namespace Go.Proofs.YtoihbhenbmffcaaGreatDoor
open Go.RowKit Go.Proofs.Tryz
variable{v w u:ly}{e:rc zA}{M:rc Nat}
structure ec(w0:ly)(sp b1 b2 b3 b4 from_ yW:Nat)(e:rc zA)(M:rc Nat)(w:ly):Prop where
 kept:Ac [] w0 w
 s:AI w b1 [j3 (V ⟨sp,0,Y⟩)] 233
 bound:AI w b2 (Am (Br e)) 243
 fr:AI w b3 [X J from_] 3
 yW:AI w b4 [X J yW] 3
 apart:∀k∈M,w0.heap.size<=k/\k≠b1/\k≠b2/\k≠b3/\k≠b4/\k<w.heap.size
structure VP(w0:ly)(M1:rc Nat)(sp b1 b2 b3 b4 from_ yW:Nat)(e:rc zA)(M:rc Nat)(w:ly):Prop where
 kept:Ac M1 w0 w
 s:AI w b1 [j3 (V ⟨sp,0,Y⟩)] 233
 bound:AI w b2 (Am (Br e)) 243
 fr:AI w b3 [X J from_] 3
 yW:AI w b4 [X J yW] 3
 apart:∀k∈M,(k∈M1\/w0.heap.size<=k)/\k≠b1/\k≠b2/\k≠b3/\k≠b4/\k<w.heap.size
def ec.more{d c f i g j a:Nat}(h:ec v d c f i g j a e M w):VP v [] d c f i g j a e M w:=
 ⟨h.kept,h.s,h.bound,h.fr,h.yW,λk b=>⟨lx (h.apart k b).1,(h.apart k b).2⟩⟩
def VP.grow{c b d g f j a:Nat}{M l:rc Nat}(h:VP v l c b d g f j a e M w)(k:Ac [] w u):VP v l c b d g f j a e M u:=
 ⟨h.kept.trans (k.mono (by simp)),h.s.kept k,h.bound.kept k,h.fr.kept k,h.yW.kept k,λi t=>by
  obtain⟨p,n,r,o,q,m⟩:=h.apart i t
  exact⟨p,n,r,o,q,oz m k.size⟩⟩
set_option maxRecDepth 100000
theorem Jh(a d b:Nat)(E:rc ml)(w:ly)(k:(oj (j2 E)).cells=j2 E)(j:Z E=26):
  Calls prog 141 #[j3 (V ⟨a,0,Y⟩),X J d,X J b,oj (j2 E)] w λr c=>∃e f i g,r=kt (.func (.func 176) #[] #[j3 (V ⟨e,0,Y⟩),j3 (V ⟨f,0,Y⟩),j3 (V ⟨i,0,Y⟩),j3 (V ⟨g,0,Y⟩)])/\
   AI c e [j3 (V ⟨a,0,Y⟩)] 233/\AI c f E 243/\AI c i [X J d] 3/\AI c g [X J b] 3/\(w.heap.size<=e/\w.heap.size<=f/\w.heap.size<=i/\w.heap.size<=g)/\Ac [] w c:=by
 go_enter func141,ntmps141;go_wp2;go_ret;refine⟨w.heap.size,w.heap.size+3,w.heap.size+1,w.heap.size+2,rfl,?_,?_,?_,?_,⟨by omega,by omega,by omega,by omega⟩,((((re [] w).alloc _).alloc _).alloc _).alloc _⟩
 .exact(((rf w [j3 (V ⟨a,0,Y⟩)] 233).alloc _).alloc _).alloc _
 .have h:=rf (((w.alloc (j1 #[j3 (V ⟨a,0,Y⟩)] 233)).alloc (j1 #[X J d] 3)).alloc (j1 #[X J b] 3)) E 243
  rw[m9,m9,m9]at h;exact h
 .have h:=((rf (w.alloc (j1 #[j3 (V ⟨a,0,Y⟩)] 233)) [X J d] 3).alloc (j1 #[X J b] 3)).alloc (j1 (j2 E) 243)
  rw[m9]at h;exact h
 .have h:=(rf ((w.alloc (j1 #[j3 (V ⟨a,0,Y⟩)] 233)).alloc (j1 #[X J d] 3)) [X J b] 3).alloc (j1 (j2 E) 243)
  rw[m9,m9]at h;exact h
theorem Wg(C:Nat)(f:rc Bw)(s:rc Af)(vs:rc UInt8)(w0:ly)(M1:rc Nat)(hS:∀a,Ac M1 w0 a->eR a C f s vs)(al:UInt8->rc zA->rc zA)(n:Nat)(e:rc zA)(B k A H:Nat)(w:ly)(d:rc Nat)(he:DF e)
  (hB:VP w0 M1 C B k A H n n e d w):
  Lq prog 176 #[j3 (V ⟨B,0,Y⟩),j3 (V ⟨k,0,Y⟩),j3 (V ⟨A,0,Y⟩),j3 (V ⟨H,0,Y⟩)] (λx=>#[oj (j2 (Am (Br x)))]) (Aw al f s [] e) d w:=by
 intro l S Jx W EY _ _ hJ HC hR BA;have g:=hB.grow EY;have y:nc (∀a,Ac [] W a->Calls prog 177 #[j3 (V ⟨C,0,Y⟩),oj (j2 (Am (Br e)))] a λr w'=>r=kt (q8 (Ex f s e))/\Ac [] a w'):=λa i=>UU (hS _ (g.kept.trans (i.mono (by simp)))) he
 have hc:=Bs (Br e);have CL:Z (Am (Br e))=26:=by unfold Am;rw[mI];exact I2 he
 have M:=Ab CL;have u:nc (Aw al f s [] e=if Ex f s e then[] else[e]):=by show _=_;rw[Aw]
 have I:=Ab hR;have HJ:=Ab hJ;have FB:=Ab BA;obtain⟨p,B0⟩:=rd (Aw al f s [] e);rw[B0]at u I⊢;have T:nc (∀a,p=[e]->S [] d a->YieldAt Fence.wide 0 prog l #[oj (j2 (Am (Br e)))] a λr W'=>(r=kt (q8 jj)/\∃b,S [e] b W')\/(r=kt (q8 K)/\∃b,Jx [e] b W')):=by
  intro a Ha hj;have h:=Aa I [] e [] d a (by rw[Ha];rfl) hj;refine YieldAt.mono h ?_;rintro r W' (⟨rfl,b,h1,_⟩|⟨rfl,b,h1,_⟩)
  .exact lo ⟨rfl,b,h1⟩
  .exact lx ⟨rfl,b,h1⟩
 obtain⟨E,hE⟩:=rd (Am (Br e));have Q:=g.bound;rw[hE]at hc CL M y T Q;have P:=g.s.cell 0;have R:=g.fr.cell 0;have c4:=g.yW.cell 0;simp at P R c4;have AH:nc (∀a,Ac [] W a->AI a k E 243/\oa a ⟨B,0,Y⟩=V (j3 (V ⟨C,0,Y⟩))/\oa a ⟨A,0,Y⟩=V (X J n)/\oa a ⟨H,0,Y⟩=V (X J n)):=λa i=>⟨Q.kept i,i.cellAt P,i.cellAt R,i.cellAt c4⟩
 obtain⟨F,hF⟩:=rd (Ex f s e);rw[hF]at u y;clear hB g Q hR hJ BA HC B0 hE hF P R c4 EY I;have m:=Ab ((re [] W).alloc (j1 #[.func (.yield l) #[] #[]] 279));have G:=Ab (rf W [.func (.yield l) #[] #[]] 279);show Calls prog 176 #[.func (.yield l) #[] #[],j3 (V ⟨B,0,Y⟩),j3 (V ⟨k,0,Y⟩),j3 (V ⟨A,0,Y⟩),j3 (V ⟨H,0,Y⟩)] W _;go_enter func176,ntmps176;refine ra (λD j=>?_);go_wp2;refine j _ _ ?_;clear j D;change Code.wp _ _ _ _ (W.alloc (j1 [.func (.yield l) #[] #[]].toArray 279));generalize hw1:W.alloc (j1 [.func (.yield l) #[] #[]].toArray 279)=w1 at m G⊢;clear hw1;generalize W.heap.size=N at G⊢;obtain⟨q2,q1,q3,q4⟩:=AH w1 m;have DT:=Ab (y w1 m);have B9:=Ab q2;clear q2;refine ra (λD j=>?_);go_wp2_with ((with_reducible show wpList _ _ _ ({dst:=_,op:=Op.load 243 _,type:=_,pos:=_,after:=_,guard:=_}::_) _ _);refine BX (by rfl) 243 _ rfl k 0 (by rfl) E _ B9.range underlying243 rfl (by rw[Aa M];exact Tryz.zI) ?_)
 refine DT.mono ?_;rintro _ w2 ⟨rfl,L⟩;have CC:=Ab (m.trans L);have FT:=Ab (G.kept L);have BS:nc (S [] d w2):=BD HJ (s:=([],d)) FB CC;obtain⟨r2,r1,r3,r4⟩:=AH w2 CC;have FC:=Ab r2;have r5:=FT.cell 0;simp at r5;clear L q1 q3 q4 B9 DT y m G r2 AH;cases F with
 |true=>
  have z:nc (p=[]):=by show _=_;rw[Aa u,mK rfl]
  go_wp2;refine m5 (qe rfl _ _ _) rfl ?_;exact⟨⟨_,rfl⟩,lo ⟨d,by rw[Aa z];exact BS⟩⟩
 |false=>
  have z:nc (p=[e]):=by show _=_;rw[Aa u,mJ (by simp)]
  have FO:=Ab (T w2 z BS);have HK:((n:Int)==(n:Int))=jj:=by simp
  clear u T;go_wp2;refine j _ _ ?_;clear j D;refine ra (λD j=>?_);refine ra (λK4 t=>?_);go_wp2;refine t _ _ ?_;clear t K4;refine wp_cond_true rfl ?_;refine ra (λK4 t=>?_);refine GJ (n:=0) 2 (by rintro ⟨_,_,h⟩;obtain⟨⟨v,e⟩,_⟩:=h;cases e) (λK2 EK=>?_);simp only[pk,pN];go_wp2_with ((with_reducible show wpList _ _ _ ({dst:=_,op:=Op.load 243 _,type:=_,pos:=_,after:=_,guard:=_}::_) _ _);refine BX (by rfl) 243 _ rfl k 0 (by rfl) E _ FC.range underlying243 rfl (by rw[Aa M];exact Tryz.zI) ?_)
  refine EK _ _ ?_;clear EK K2;simp only[pC,pF];refine IP (λ_=>trivial) rfl rfl (l:=l) (args:=#[oj (j2 E)]) (by rfl) (by first|(simp[go_sem,Oper.semAt];done)|(simp[go_sem,Oper.semAt,execOp,resolve,invoke];done)) FO ?_;rintro r w4 (⟨rfl,b,q⟩|⟨rfl,b,q⟩)
  .refine⟨_,rfl,Dj (by rintro ⟨_,_,h⟩;obtain⟨⟨v,e⟩,_⟩:=h;cases e) ?_⟩;simp only[qY,mq,mr,mt];have A0:=Ab q;clear q;go_wp2;refine t _ _ ?_;go_wp2;refine m5 (qe rfl _ _ _) rfl ?_;exact⟨⟨_,rfl⟩,lo ⟨b,by rw[Aa z];exact A0⟩⟩
  .refine⟨_,rfl,Dj (by rintro ⟨_,_,h⟩;obtain⟨⟨v,e⟩,_⟩:=h;cases e) ?_⟩;simp only[qY,mq,mr,mt];have A0:=Ab q;clear q;go_wp2;refine t _ _ ?_;go_wp2;refine m5 (qe rfl _ _ _) rfl ?_;exact⟨⟨_,rfl⟩,lx ⟨_,b,A0⟩⟩
end Go.Proofs.YtoihbhenbmffcaaGreatDoor
namespace Go.Proofs.YtoihbhenbmffcaaGreatDoor
open Go.RowKit Go.Proofs.Tryz
variable{w v u:ly}{n m:Nat}{f:rc Af}{P:Program}{Q:Exit->Act->ly->Prop}{a:Act}{M:rc Nat}
def fF{α β:Type}(f:α->rc β)(l:rc α)(k:Nat)(a:k<Z l):l.flatMap f=(l.take k).flatMap f++(f l[k]++(l.drop (k+1)).flatMap f):=by
 conv=>lhs;rw[<-nO k l,mY,mQ a,mX]
def Zw{α β:Type}(f:α->rc β)(l:rc α)(k:Nat)(a:k<Z l):(l.take (k+1)).flatMap f=(l.take k).flatMap f++f l[k]:=by
 rw[mx a,mY];simp
def iX{a:rc Bw}{s:rc Af}(m:∀f∈s,AL f)(j:au s a)(v:UInt8)(e:rc zA):Z (JN a s v e)<=Z s:=by
 have g:=FG a s v e;cases hl:Di a s v e with
 |nil=>
  cases ha:JN a s v e with
  |nil=>simp
  |cons t l=>
   have h:=(g t).1 (by rw[ha];simp);exact absurd hl h.1
 |cons l ls=>
  have c:l∈Di a s v e:=by rw[hl];simp
  have n:Z l<=Z s:=by
   unfold Di at c;obtain⟨x,p,b⟩:=oG.1 c;by_cases d:(x.kind==97)=jj
   .rw[mK d,pT]at b;obtain⟨i,o,rfl⟩:=b;unfold Hb;rw[mI];exact oo _ _
   .rw[mJ d]at b;cases b
  have:=M8 (JN a s v e) l (Ue m j v e) (λt k=>((g t).1 k).2 l c);omega
def ju{a:rc Bw}{b:rc UInt8}(h:eR w n a f b)(v:UInt8)(e:rc zA):Z (JN a f v e)<=10000:=by
 obtain⟨u,o,x,m,k,p,d,t,j,q,l,g,r,i,c⟩:=h.at_;have:=iX c.canon h.fit v e;have:=h.len;omega
section
variable {P:Program} {ops:Array Oper} {Q:Exit->Act->ly->Prop} {md:Region.Mode} {S:ly->Prop} {k:Nat}
def Cz.firstH{i:Nat}{n:Oper}{v:ml}(A:ops[i]?=V n)(G:∀(j:Nat) (o:Oper) p b,ops[j]?=V o->o.op≠ .select p b)
  (T:∀c a w,Q (.panic c) (a.put n.dst v) w->Q (.panic c) a w) (hW:ops.size<=k):
  ∀(r:Nat) (f:Array Bool) (a:Act) (w:ly),
   (∀j m,ops[j]?=V m->j≠i->f.getD j jj=K->(∀e∈m.after,Region.binds md e=jj->e.on≠i)->n.apart ops m=jj)->
   i∈Region.ready md ops f->YieldsIf P ops S n v a->S w->
   Cz P md ops Q S k r (f.setIfInBounds i jj) (a.put n.dst v) w->Cz P md ops Q S k (r+1) f a w:=by
 intro r
 induction r with
 |zero=>
  intro f a w _ l u t H;refine⟨λh=>(by rw[h]at l;cases l),λj s=>?_⟩;by_cases d:j=i
  .subst d;exact u.wpOp A t ⟨λ_=>t,H⟩
  .have:=qC s d;rw[H.1]at this;cases this
 |succ r ih=>
  intro f a w D l u t H;have F:=(mem_ready.1 l).1;refine⟨λh=>(by rw[h]at l;cases l),λj s=>?_⟩;by_cases d:j=i
  .subst d;exact u.wpOp A t ⟨λ_=>t,H⟩
  .have C:j≠k:=λe=>by
    obtain⟨_,o,ho,_⟩:=mem_ready.1 s;have:=(nz.1 ho).1;omega
   have h1:=H.2 j (qC s d);obtain⟨B,m,y,AT⟩:=mem_ready.1 s;have Ax:∀e∈m.after,Region.binds md e=jj->e.on≠i:=λe he N R=>by
    have g:=AT e he N;rw[R]at g;rcases Nat.lt_or_ge i f.size with z|z
    .simp[z]at F g;rw[F]at g;cases g
    .simp[pU z]at g
   have g:=wpOp_putIf y (D j m y d B Ax) (λp b=>G i n p b A) (λp b=>G j m p b y) T u h1;refine wpOp_mono (λa' M x=>⟨λ_=>x.2.1 C,ih (f.setIfInBounds j jj) a' M (λq oq W AR I L=>D q oq W AR ?_ L) (qC l (Ne.symm d)) x.1 (x.2.1 C) ?_⟩) g
   .by_cases E:j=q
    .subst E;exact B
    .rw[getD_set_ne jj E]at I;exact I
   .rw[qD _ _ d];exact x.2.2
def Cz.yO{i:Nat}{d:Oper}{v:ml}{e:Nat}{b:Array Bool}{a:Act}{w:ly}(f:ops[i]?=V d)
  (o:Region.noSelect ops=jj) (g:Region.free md ops b i=jj) (n:(Region.ready md ops b).contains i=jj) (j:ops.size<=k)
  (p:∀c a w,Q (.panic c) (a.put d.dst v) w->Q (.panic c) a w) (m:S w) (l:YieldsIf P ops S d v a)
  (h:Cz P md ops Q S k e (b.setIfInBounds i jj) (a.put d.dst v) w):Cz P md ops Q S k (e+1) b a w:=
 Cz.firstH f (Region.noSelect_spec o) p j e b a w (Region.free_spec f g) (by simpa using n) l m h
def Cz.tkH{i:Nat}{d:Oper}{v:ml}{f:Nat}{e:Array Bool}{a:Act}{w:ly}(n:ops[i]?=V d)(b:lG md ops e i (decide (ops.size<=k))=jj)
  (m:∀c a w,Q (.panic c) (a.put d.dst v) w->Q (.panic c) a w) (l:nc (S w)) (g:Region.wanted d (yielded ops a.tmps)=jj) (j:∀w,S w->(execOp a.eval d).run P w=.ok (.value v) w)
  (h:Cz P md ops Q S k f (e.setIfInBounds i jj) (a.put d.dst v) w):Cz P md ops Q S k (f+1) e a w:=by
 unfold lG at b;simp only[mV,py]at b;exact Cz.yO n b.1.1.1 b.1.1.2 b.1.2 b.2 m l (lo ⟨g,j⟩) h
theorem Cz.tqH{i:Nat}{b:Oper}{v:ml}{e:Nat}{d:Array Bool}{a:Act}{w:ly}(n:ops[i]?=V b)(g:∀c a w,Q (.panic c) (a.put b.dst v) w->Q (.panic c) a w)(l:nc (S w))(h:Cz P md ops Q S k e (d.setIfInBounds i jj) (a.put b.dst v) w)(m:lG md ops d i (decide (ops.size<=k))=jj:=by kernel_rfl)(f:Region.wanted b (yielded ops a.tmps)=jj:=by rfl)
  (j:∀w,S w->(execOp a.eval b).run P w=.ok (.value v) w:=by(intro o p;(try go_split_ands);go_simp)):Cz P md ops Q S k (e+1) d a w:=Cz.tkH n m g l f j h
end
def iE(k:Nat)(h:k<=1000000):wrap64 ((k:Int)+1)=((k+1:Nat):Int):=by
 unfold wrap64;omega
def Lj(Q:Exit->Act->ly->Prop):Exit->Act->ly->Prop
 | .panic _,_,_=>False
 | .outgrown,_,_=>False
 |e,a,w=>Q e a w
def GP{c:Code}(h:c.wp P (Lj Q) a w):c.wp P Q a w:=wp_mono h (λe a w h=>by
 cases e<;>first|exact h|exact h.elim)
structure ZF(M0:rc Nat)(w3:ly)(M:rc Nat)(w:ly):Prop where
 kept:Ac M0 w3 w
 mem:∀q∈M,(q∈M0\/w3.heap.size<=q)/\q<w.heap.size
def ZF.step{b M e:rc Nat}(h:ZF b v M w)(k:Ac M w u)(d:∀q∈e,(q∈M\/w.heap.size<=q)/\q<u.heap.size):ZF b v e u:=
 ⟨h.kept.trans' k (λi f=>(h.mem i f).1),λq c=>⟨by
  rcases(d q c).1 with a|a
  .exact(h.mem q a).1
  .exact lx (nD h.kept.size a),(d q c).2⟩⟩
structure XY(J:rc (rc zA)->rc Nat->ly->Prop)(l:Nat)(P0:rc (rc zA))(M:rc Nat)(w5:ly)(pre:rc (rc zA))(M':rc Nat)(W:ly):Prop where
 at_:∃Mo,M'=l::Mo/\J (P0++pre) Mo W/\ZF M w5 Mo W
structure Yc(Jx:rc (rc zA)->rc Nat->ly->Prop)(l:Nat)(M:rc Nat)(w5:ly)(c:Code)(W:ly):Prop where
 ret:c=.ret
 at_:∃pre Mo,Jx pre Mo W
 kept:Ac (l::M) w5 W
def XY.own{d:rc (rc zA)->rc Nat->ly->Prop}{f:rc (rc zA)}(o:OwnFrom n (fun(s:rc (rc zA)×rc Nat) W=>d s.1 s.2 W))(t:n<=w.heap.size):OwnFrom w.heap.size (fun(s:rc (rc zA)×rc Nat) W=>XY d m f M w s.1 s.2 W):=λs A C j p b a=>by
 obtain⟨h,k,i,c⟩:=p.at_;refine⟨h,k,o (f++s.1,h) A C j i b (λr e=>⟨by have:=(a r e).1;omega,(a r e).2⟩),c.kept.grown b (λr e=>lx (a r e).1),λq g=>⟨(c.mem q g).1,oz (c.mem q g).2 b.size⟩⟩
def Yc.own{h:rc (rc zA)->rc Nat->ly->Prop}(k:OwnFrom n (fun(s:rc (rc zA)×rc Nat) W=>h s.1 s.2 W))(o:n<=w.heap.size)(c:Code):OwnFrom w.heap.size (fun(s:rc (rc zA)×rc Nat) W=>Yc h m M w c W):=λs A C j b f a=>by
 obtain⟨d,g,i⟩:=b.at_;exact⟨b.ret,⟨d,g,k (d,g) A C j i f (λr e=>⟨by have:=(a r e).1;omega,(a r e).2⟩)⟩,b.kept.grown f (λr e=>lx (a r e).1)⟩
def G5{d:UInt8->rc zA->rc zA}{f:rc Bw}{s:rc Af}:∀(c:rc UInt8) (e:rc zA),Z e=26->∀b∈Aw d f s c e,Z b=26
 |[],e,he,b,a=>by
  rw[Aw]at a;split at a
  .simp at a
  .rw[my]at a;rw[a];exact he
 |v::c,e,he,b,a=>by
  rw[Aw]at a;split at a
  .simp at a
  .obtain⟨t,_,a⟩:=m6.1 a;exact G5 c _ (by rw[ou];exact he) b a
def Nz{a:rc Nat}(h:DC n a w)(k:Ac M w v)(c:∀D∈a,D∉M):DC n a v:=
 ⟨h.nodup,h.ge,λD b=>(k.block D (nz.1 (h.at_ D b)).1 (c D b)).trans (h.at_ D b)⟩
def Xv(h:DC n M w):∀D∈M,D<w.heap.size:=λD a=>(nz.1 (h.at_ D a)).1
set_option maxRecDepth 100000
theorem Vq(G:Nat)(A:rc Bw)(s:rc Af)(vs:rc UInt8)(w0:ly)(M1:rc Nat)(M2:∀f,Ac M1 w0 f->eR f G A s vs)(v:UInt8)(FO:rc UInt8)(m A2:Nat)(e:rc zA)(b1 b2 b3 b4:Nat)(w:ly)(M0:rc Nat)(he:DF e)
  (HM:m<A2) (f3:A2<=Z vs) (hv:vs[m]'(by omega)=v) (hB:VP w0 M1 G b1 b2 b3 b4 m A2 e M0 w)
  (ih:∀(e':rc zA) (c1 c2 c3 c4:Nat) (w':ly) (M:rc Nat),DF e'->VP w0 M1 G c1 c2 c3 c4 (m+1) A2 e' M w'->
   Lq prog 176 #[j3 (V ⟨c1,0,Y⟩),j3 (V ⟨c2,0,Y⟩),j3 (V ⟨c3,0,Y⟩),j3 (V ⟨c4,0,Y⟩)] (λx=>#[oj (j2 (Am (Br x)))]) (Aw (JN A s) A s FO e') M w'):
  Lq prog 176 #[j3 (V ⟨b1,0,Y⟩),j3 (V ⟨b2,0,Y⟩),j3 (V ⟨b3,0,Y⟩),j3 (V ⟨b4,0,Y⟩)] (λx=>#[oj (j2 (Am (Br x)))]) (Aw (JN A s) A s (v::FO) e) M0 w:=by
 intro l B9 Jx W H9 cc eg hJ RT hR dc;have hS:=M2 _ hB.kept;have KD:EP v:=by rw[<-hv];exact hS.ok _ (mw _)
 have FB:=hB.grow H9;have K7:nc (∀f,Ac [] W f->Calls prog 177 #[j3 (V ⟨G,0,Y⟩),oj (j2 (Am (Br e)))] f λr w'=>r=kt (q8 (Ex A s e))/\Ac [] f w'):=λf p=>UU (M2 _ (FB.kept.trans (p.mono (by simp)))) he
 have HV:nc (∀f,Ac [] W f->Calls prog 178 #[j3 (V ⟨G,0,Y⟩),X .i32 (v.toNat:Int),oj (j2 (Am (Br e)))] f λr w'=>∃(ad:Option Addr) (cp:Nat),r=kt (U ad (Z ((JN A s v e).map AD)) cp)/\
   oi w' f.heap.size 170 1 (U ad (Z ((JN A s v e).map AD)) cp) (Z ((JN A s v e).map AD)) (((JN A s v e).map AD).flatMap Ai)/\Ac [] f w'):=λf p=>Wp (M2 _ (FB.kept.trans (p.mono (by simp)))) he KD
 have hc:=Bs (Br e);have NL:Z (Am (Br e))=26:=by unfold Am;rw[mI];exact I2 he
 have MN:=Ab NL;have a4:nc (∀u∈Am (Br e),u.oneCell'=jj):=by
  intro u hu;unfold Am at hu;obtain⟨y,_,rfl⟩:=mD.1 hu;rfl
 have HX:nc (Aw (JN A s) A s (v::FO) e=if Ex A s e then[] else(JN A s v e).flatMap λt=>Aw (JN A s) A s FO (e.set (v.toNat-65) t)):=by show _=_;rw[Aw]
 have af:nc (∀t∈JN A s v e,A8 t):=dz hS v e;have T0:nc (Z (JN A s v e)<=10000):=ju hS v e;have NV:nc (∀t,A8 t->DF (e.set (v.toNat-65) t)/\Am (Br (e.set (v.toNat-65) t))=(Am (Br e)).set (v.toNat-65) (O (AD t))):=λt ht=>⟨he.set _ ht,by rw[iP e _ ht];unfold Am;rw[qT]⟩
 obtain⟨kb,ko,bv,og,IS,X2,QR⟩:=dE hS m (by omega)
 rw[hv]at QR;have DG:nc (∀f,Ac [] W f->oa f ⟨G,2,Y⟩=V (U (V ⟨og,0,Y⟩) (Z vs) IS)/\oa f ⟨og,m,Y⟩=V (X .i32 (v.toNat:Int))):=λf p=>by
  have h1:=(X2.kept (H9.trans p)).cell 2;simp at h1;exact⟨h1,(H9.trans p).cellAt QR⟩
 have g0:=Ab ih;have TL:=Ab hR;have HJ:=Ab hJ;have gz:=Ab RT;have eT:=Ab dc;have HB:=Ab FB;have fa:nc (w.heap.size<=l/\l<W.heap.size/\Ac [] w W/\VP w0 M1 G b1 b2 b3 b4 m A2 e M0 w):=⟨cc,eg,H9,hB⟩
 have ho:=Ab KD;obtain⟨j,hj⟩:∃j:Nat,v.toNat-65=j:=⟨_,rfl⟩;have cl:nc ((v.toNat:Int)=(j:Int)+65/\j<26):=by
  obtain⟨h1,h2⟩:=KD;exact⟨by omega,by omega⟩
 rw[hj]at HX NV;obtain⟨B,bl⟩:=rd (JN A s v e);rw[bl]at HX af HV T0;obtain⟨H,K9⟩:∃H:zA->rc (rc zA),(λt=>Aw (JN A s) A s FO (e.set j t))=H:=⟨_,rfl⟩;have e2:nc (∀t,Aw (JN A s) A s FO (e.set j t)=H t):=λt=>by rw[<-K9]
 have WB:nc (∀t,∀x∈H t,Z x=26):=λt x hx=>by
  rw[<-K9]at hx;exact G5 FO _ (by rw[ou];exact he.len) x hx
 rw[K9]at HX;obtain⟨XS,d8⟩:=rd (Aw (JN A s) A s (v::FO) e);rw[d8]at HX TL⊢;obtain⟨F,hF⟩:=rd (Ex A s e);rw[hF]at HX K7;obtain⟨E,hE⟩:=rd (Am (Br e));have fv:=Ab hE;have P0:=FB.bound;rw[hE]at hc NL MN a4 K7 HV NV P0;have eA:=Aa cl;rw[eA.1]at HV DG;have c1:=FB.s.cell 0;have c3:=FB.fr.cell 0;have c4:=FB.yW.cell 0;simp at c1 c3 c4;have ST:nc (∀f,Ac [] W f->AI f b2 E 243/\oa f ⟨b1,0,Y⟩=V (j3 (V ⟨G,0,Y⟩))/\oa f ⟨b3,0,Y⟩=V (X J m)/\oa f ⟨b4,0,Y⟩=V (X J A2)):=λf p=>⟨P0.kept p,p.cellAt c1,p.cellAt c3,p.cellAt c4⟩
 have hH:((m:Int)==(A2:Int))=K:=by simp;omega
 have hh:(0:Int)<=(m:Int):=by omega
 have g9:(m:Int)<(Z vs:Int):=by omega
 have e5:=hS.yH;have hI:IntKind.i64.wrap ((m:Int)+1)=(m:Int)+1:=by rw[pV];omega
 obtain⟨VL,a0⟩:=rd (Z vs);rw[a0]at g9 DG;have NS:nc (∀k∈M0,k<W.heap.size/\k≠b1/\k≠b2/\k≠b3/\k≠b4):=λk p=>by
  obtain⟨_,h2,h3,h4,h5,h6⟩:=FB.apart k p;exact⟨h6,h2,h3,h4,h5⟩
 obtain⟨QQ,Nj⟩:=rd (Lj (bodyPostM Fence.wide 0 prog Tryz.f176 λe o=>(∃v,e=kt v)/\((∃I,B9 XS I o)\/(∃B0 I,Jx B0 I o))));have BS:nc (∀c a w,¬QQ (.panic c) a w):=by
  intro c a w h;rw[<-Nj]at h;exact h
 have Nx:nc (∀(LB:Array ml) (R:rc Nat) (f:ly),DC W.heap.size R f->((∃I,B9 XS I f)\/(∃B0 I,Jx B0 I f))->QQ .ret ⟨LB,R.map EU⟩ f/\QQ .normal ⟨LB,R.map EU⟩ f):=by
  intro LB R f hm hp;rw[<-Nj];have ew:LeavesInM Fence.wide 0 prog Tryz.f176 LB (λe o=>(∃v,e=kt v)/\((∃I,B9 XS I o)\/(∃B0 I,Jx B0 I o))) (R.map EU) .returning f:=by
   refine Dg R f hm (λw' hs=>⟨_,qe rfl _ _ _,⟨_,rfl⟩,?_⟩);rcases hp with⟨I,h⟩|⟨B0,I,h⟩
   .exact lo ⟨I,hs.own hJ (s:=(XS,I)) hm h⟩
   .exact lx ⟨B0,I,hs.own RT (s:=(B0,I)) hm h⟩
  exact⟨ew,ew⟩
 have H3:=Ab ((re [] W).alloc (j1 #[.func (.yield l) #[] #[]] 279));have L0:=Ab (rf W [.func (.yield l) #[] #[]] 279);show Calls prog 176 #[.func (.yield l) #[] #[],j3 (V ⟨b1,0,Y⟩),j3 (V ⟨b2,0,Y⟩),j3 (V ⟨b3,0,Y⟩),j3 (V ⟨b4,0,Y⟩)] W _;refine En func176 rfl (GP ?_);rw[Nj];clear Nj hB FB P0 hR hJ dc RT d8 hE hF c1 c3 c4 H9 cc eg ih hS M2 he hv KD X2 QR hj bl K9 a0 eA f3 e5 HM;simp only[ntmps176,nQ,mL,m8,Nat.reduceAdd,Nat.reduceSub,pd,pg,pD,pm,nM,ot];refine ra (λK1 P=>?_);go_wp2;refine P _ _ ?_;clear P K1;change Code.wp _ _ _ _ (W.alloc (j1 [.func (.yield l) #[] #[]].toArray 279));generalize hw1:W.alloc (j1 [.func (.yield l) #[] #[]].toArray 279)=w1 at H3 L0⊢;clear hw1;obtain⟨N,hN⟩:=rd W.heap.size;have HN:=Ab hN;rw[hN]at L0⊢;clear hN;obtain⟨q2,q1,q3,q4⟩:=ST w1 H3;have c5:=Ab (K7 w1 H3);have cB:=Ab q2;clear q2;refine ra (λK1 P=>?_);go_wp2_with ((with_reducible show wpList _ _ _ ({dst:=_,op:=Op.load 243 _,type:=_,pos:=_,after:=_,guard:=_}::_) _ _);refine BX (by rfl) 243 _ rfl b2 0 (by rfl) E _ cB.range underlying243 rfl (by rw[Aa MN];exact Tryz.zI) ?_)
 refine c5.mono ?_;rintro _ w2 ⟨rfl,k2⟩;have H7:=Ab (H3.trans k2);have bn:=Ab (L0.kept k2);have N0:nc (B9 [] M0 w2):=BD HJ (s:=([],M0)) eT H7;clear k2 q1 q3 q4 cB c5 K7 H3 L0;cases F with
 |true=>
  have LD:nc (XS=[]):=by show _=_;rw[Aa HX,mK rfl]
  go_wp2;exact(Nx _ [] w2 ⟨ph,λ_ h=>by simp at h,λ_ h=>by simp at h⟩ (lo ⟨M0,by rw[Aa LD];exact N0⟩)).1
 |false=>
  have LD:nc (XS=B.flatMap H):=by show _=_;rw[Aa HX,mJ (by simp)]
  clear HX;go_wp2;refine P _ _ ?_;clear P K1;obtain⟨r2,r1,r3,r4⟩:=ST w2 H7;clear r2;refine ra (λK1 P=>?_);go_wp2;refine P _ _ ?_;clear P K1;obtain⟨o1,o2⟩:=DG w2 H7;refine ra (λK1 P=>?_)
  .refine CA 7 (λf=>oa f ⟨b1,0,Y⟩=V (j3 (V ⟨G,0,Y⟩))/\oa f ⟨b3,0,Y⟩=V (X J m)/\oa f ⟨G,2,Y⟩=V (U (V ⟨og,0,Y⟩) VL IS)/\oa f ⟨og,m,Y⟩=V (X .i32 ((j:Int)+65))) (by kernel_rfl) ?_
   have Ax:nc (oa w2.drew ⟨b1,0,Y⟩=V (j3 (V ⟨G,0,Y⟩))/\oa w2.drew ⟨b3,0,Y⟩=V (X J m)/\oa w2.drew ⟨G,2,Y⟩=V (U (V ⟨og,0,Y⟩) VL IS)/\oa w2.drew ⟨og,m,Y⟩=V (X .i32 ((j:Int)+65))):=⟨r1,r3,o1,o2⟩
   refine Cz.tq (i:=0) (v:=j3 (V ⟨G,0,Y⟩)) rfl (BI BS) Ax ?_;simp only[qY,mq,mr,mt];refine Cz.tq (i:=1) (v:=j3 (V ⟨G,0,Y⟩)) rfl (BI BS) Ax ?_;simp only[qY,mq,mr,mt];refine Cz.tq (i:=2) (v:=j3 (V ⟨G,2,Y⟩)) rfl (BI BS) Ax ?_;simp only[qY,mq,mr,mt];refine Cz.tq (i:=3) (v:=U (V ⟨og,0,Y⟩) VL IS) rfl (BI BS) Ax ?_;simp only[qY,mq,mr,mt];refine Cz.tq (i:=4) (v:=X J m) rfl (BI BS) Ax ?_
   simp only[qY,mq,mr,mt];refine Cz.tq (i:=5) (v:=j3 (V ⟨og,m,Y⟩)) rfl (BI BS) Ax ?_;simp only[qY,mq,mr,mt];refine Cz.tq (i:=6) (v:=X .i32 ((j:Int)+65)) rfl (BI BS) Ax ?_;simp only[qY,mq,mr,mt];refine Cz.one (i:=7) (by kernel_rfl) rfl (λHQ hK=>?_)
   go_simp
   refine hK.out _ _ (λh=>absurd rfl h) ?_;clear hK HQ;refine Cz.done (by kernel_rfl) ?_ _
   try simp only[qY,mq,mr,mt]
   refine P _ _ ?_;clear P K1 Ax r1 r3 r4 o1 o2;have HD:=Ab (H7.drew);have OH:nc (B9 [] M0 w2.drew):=BD HJ (s:=([],M0)) N0 (re [] w2).drew;have Nq:=Ab (bn.drew);generalize w2.drew=w2d at HD OH Nq⊢;clear H7 N0 bn;obtain⟨r2,r1,r3,r4⟩:=ST w2d HD;have a2:=Ab r2;have c6:=Ab (HV w2d HD);clear r2 HV;go_wp2_with ((with_reducible show wpList _ _ _ ({dst:=_,op:=Op.load 243 _,type:=_,pos:=_,after:=_,guard:=_}::_) _ _);refine BX (by rfl) 243 _ rfl b2 0 (by rfl) E _ a2.range underlying243 rfl (by rw[Aa MN];exact Tryz.zI) ?_)
   refine c6.mono ?_;rintro _ w3 ⟨ad,cp,rfl,br,k3⟩;have K4:=Ab (HD.trans k3);have av:nc (B9 [] M0 w3):=BD HJ (s:=([],M0)) OH k3;have c0:=Ab (Nq.kept k3);have co:=Ab (Ak br (show W.heap.size<=w2d.heap.size from HD.size))
   obtain⟨L,hL⟩:=rd (Z (B.map AD));(have HL:nc (Z B=L):=by show _=_;rw[<-hL,mI]);rw[hL]at co⊢;clear br k3 hL c6 HD OH Nq r1 r3 r4 a2;have b6:nc (∀f,Ac M0 w3 f->AI f b2 E 243/\AI f b1 [j3 (V ⟨G,0,Y⟩)] 233/\AI f b3 [X J m] 3/\AI f b4 [X J A2] 3/\AI f N [.func (.yield l) #[] #[]] 279/\oi f N 170 1 (U ad L cp) L ((B.map AD).flatMap Ai)):=by
    intro f p;have hb:=HB.grow K4;have cx:=hb.bound;rw[Aa fv]at cx;have HO:=Aa NS;have hn:=Aa HN;refine⟨cx.kept p (λh=>(HO _ h).2.2.1 rfl),hb.s.kept p (λh=>(HO _ h).2.1 rfl),hb.fr.kept p (λh=>(HO _ h).2.2.2.1 rfl),hb.yW.kept p (λh=>(HO _ h).2.2.2.2 rfl),c0.kept p (λh=>by have:=(HO _ h).1;omega),?_⟩;have hr:=Aa co;rw[hn]at hr;exact Ag hr p (λi S hm=>by have h1:=(hr.lt i S).1;have h2:=(HO i hm).1;omega)
   (go_wp2_with fail);refine wp_loop_ghost_k (λgk a wr=>∃(k:Nat) (M R:rc Nat) (y7 y8 y9 b9 a6 TX an WW X1 b0 cL cs em et c7 W1 ar d6 W3 db a5 aT U1 aa W2 a8 ao c9 cv a3 cz cb ca ZV VR bt bd ba ag ab:ml),a=⟨#[.func (.yield l) #[] #[],j3 (V ⟨b1,0,Y⟩),j3 (V ⟨b2,0,Y⟩),j3 (V ⟨b3,0,Y⟩),j3 (V ⟨b4,0,Y⟩),j3 (V ⟨N,0,Y⟩),X .i32 ((j:Int)+65),y7,y8,y9,b9,a6,TX,an,WW,X1,b0,cL,cs,em,et,c7,W1,ar,d6,W3,db,a5,aT,U ad L cp,X J L,X J k,U1,aa,W2,a8,ao,c9,cv,a3,cz,cb,ca,ZV,VR,bt,bd,ba,ag,ab],R.map EU⟩/\k<=L/\gk=L-k/\nc (B9 ((B.take k).flatMap H) M wr)/\nc (ZF M0 w3 M wr)/\nc (DC N R wr/\∀D∈R,D∉M)) L ?start ?round
   case start=>
    refine⟨0,M0,[],_,_,_,_,_,_,_,_,_,_,_,_,_,_,_,_,_,_,_,_,_,_,_,_,_,_,_,_,_,_,_,_,_,_,_,_,_,_,_,_,rfl,by omega,rfl,by rw[pN];exact av,⟨re _ _,λq z=>⟨lo z,?_⟩⟩,⟨⟨ph,λ_ h=>by simp at h,λ_ h=>by simp at h⟩,λ_ h=>by simp at h⟩⟩;have h1:=(NS q z).1;have h2:=K4.size;omega
   case round=>
    rintro gk a wr ⟨k,M,R,y7,y8,y9,b9,a6,TX,an,WW,X1,b0,cL,cs,em,et,c7,W1,ar,d6,W3,db,a5,aT,U1,aa,W2,a8,ao,c9,cv,a3,cz,cb,ca,ZV,VR,bt,bd,ba,ag,ab,rfl,p,bz,VS,Ha,SL⟩ JJ KK b5 c8;have HG:=Ab bz;have gr:=Ab b5;have e8:=Ab c8;clear bz b5 c8 av;by_cases e4:k<L
    .obtain⟨s2,s1,s3,s4,s5,s6⟩:=b6 wr Ha.kept;(have Nd:k<Z B:=by have:=Aa HL;omega);obtain⟨g,hA,SJ,JA⟩:=Iz (l:=B.map AD) (by rw[mI,Aa HL];exact s6) k (by rw[mI];exact Nd);rw[mI,Aa HL]at SJ;simp only[mu]at SJ;obtain⟨rfl,-,rfl⟩:=SJ;rw[List.getElem_map]at JA;obtain⟨t,ht⟩:=rd (B[k]);rw[ht]at JA;(have UO:A8 t:=by rw[<-ht];exact af _ (mw Nd));obtain⟨NA,SP⟩:=NV t UO;(have fk:nc (XS=(B.take k).flatMap H++(H t++(B.drop (k+1)).flatMap H)):=by show _=_;rw[Aa LD,fF H B k Nd,ht]);(have fl:nc ((B.take (k+1)).flatMap H=(B.take k).flatMap H++H t):=by show _=_;rw[Zw H B k Nd,ht]);have al:=Ab SP;have gp:=Ab NA;(have hw:(0:Int)<=(k:Int):=by omega);(have f5:(k:Int)<(L:Int):=by omega);have hV:=Ab s2;have c1:=s1.cell 0;have c3:=s3.cell 0;have c4:=s4.cell 0;simp at c1 c3 c4;have MY:nc (∀f,Ac [] wr f->f.rangeAt b2 0 E/\Ac [] wr f/\oa f ⟨b1,0,Y⟩=V (j3 (V ⟨G,0,Y⟩))/\oa f ⟨b3,0,Y⟩=V (X J m)/\oa f ⟨b4,0,Y⟩=V (X J A2)):=λf p=>⟨(s2.kept p).range,p,p.cellAt c1,p.cellAt c3,p.cellAt c4⟩
     (have NN:nc (∀f,Calls prog 179 #[oj (j2 E),X .i32 ((j:Int)+65),O (AD t)] f λr w'=>r=kt (oj (j2 (E.set j (O (AD t)))))/\Ac [] f w'):=λf=>cH E j (AD t) f NL cl.2 hc a4);have RB:nc (∀f,Calls prog 141 #[j3 (V ⟨G,0,Y⟩),X J ((m:Int)+1),X J A2,oj (j2 (E.set j (O (AD t))))] f λr w'=>∃b1 b2 b3 b4,r=kt (.func (.func 176) #[] #[j3 (V ⟨b1,0,Y⟩),j3 (V ⟨b2,0,Y⟩),j3 (V ⟨b3,0,Y⟩),j3 (V ⟨b4,0,Y⟩)])/\
       AI w' b1 [j3 (V ⟨G,0,Y⟩)] 233/\AI w' b2 (E.set j (O (AD t))) 243/\AI w' b3 [X J ((m+1:Nat):Int)] 3/\AI w' b4 [X J A2] 3/\(f.heap.size<=b1/\f.heap.size<=b2/\f.heap.size<=b3/\f.heap.size<=b4)/\Ac [] f w'):=λf=>by
      have h:=Jh G (m+1) A2 (Am (Br (e.set j t))) f (Bs _) (by unfold Am;rw[mI];exact I2 NA);rw[SP]at h;rw[show((m:Int)+1)=((m+1:Nat):Int) by omega];exact h
     clear ht UO NA SP s1 s3 s4 s5 s6 s2 c1 c3 c4;generalize AD t=tb at JA NN RB al;refine ra (λK1 P=>?_);go_wp2;refine P _ _ ?_;clear P K1;refine ra (λK1 P=>?_);go_wp2;refine P _ _ ?_;clear P K1;refine ra (λK5 bp=>?_);refine wp_block ?_;refine ra (λK1 P=>?_);go_wp2;refine P _ _ ?_;clear P K1 JA;refine ra (λK6 bx=>?_);refine CA 9 (λf=>f.rangeAt b2 0 E/\Ac [] wr f/\oa f ⟨b1,0,Y⟩=V (j3 (V ⟨G,0,Y⟩))/\oa f ⟨b3,0,Y⟩=V (X J m)/\oa f ⟨b4,0,Y⟩=V (X J A2)) (by kernel_rfl) ?_
     have Ax:=Ab (MY wr.drew (re [] wr).drew);refine Cz.tqH (i:=0) (v:=j3 (V ⟨G,0,Y⟩)) rfl (BI BS) Ax ?_;simp only[qY,mq,mr,mt];refine Cz.tqH (i:=1) (v:=X J m) rfl (BI BS) Ax ?_
     simp only[qY,mq,mr,mt];refine Cz.tqH (i:=2) (v:=X J ((m:Int)+1)) rfl (BI BS) Ax ?_;simp only[qY,mq,mr,mt];refine Cz.tqH (i:=3) (v:=X J A2) rfl (BI BS) Ax ?_;simp only[qY,mq,mr,mt];refine Cz.yO (i:=4) (v:=oj (j2 E)) rfl (by kernel_rfl) (by kernel_rfl) (by kernel_rfl) (by decide) (λ_ _ _ h=>absurd h (BS _ _ _)) Ax (yieldsIf_load_mid (by rfl) 243 _ rfl b2 0 (by rfl) E _ (λf hz=>hz.1) underlying243 rfl (by rw[Aa MN];exact Tryz.zI)) ?_;simp only[qY,mq,mr,mt];refine Cz.tqH (i:=5) (v:=X .i32 ((j:Int)+65)) rfl (BI BS) Ax ?_;simp only[qY,mq,mr,mt];refine Cz.tqH (i:=6) (v:=O tb) rfl (BI BS) Ax ?_;simp only[qY,mq,mr,mt];refine Cz.one (i:=7) (by kernel_rfl) rfl (λHQ hK=>?_)
     go_simp
     refine(NN _).mono ?_;rintro _ w4 ⟨rfl,k4⟩;have RV:Ac [] wr w4:=(re [] wr).drew.trans k4;refine hK.out _ _ (λ_=>MY w4 RV) ?_;clear hK HQ;have X3:=Ab RV;clear k4 RV
     try simp only[qY,mq,mr,mt]
     refine Cz.one (i:=8) (by kernel_rfl) rfl (λHQ hK=>?_)
     go_simp
     refine(RB _).mono ?_;rintro _ w5 ⟨d1,d2,d3,d4,rfl,n1,n2,n3,n4,f6,k5⟩;have H6:Ac [] wr w5:=X3.trans k5;refine hK.out _ _ (λ_=>MY w5 H6) ?_;clear hK HQ;refine Cz.done (by kernel_rfl) ?_ _
     try simp only[qY,mq,mr,mt]
     refine bx _ _ ?_;clear bx K6 Ax NN RB MY;(have LE:∀q∈M,q<wr.heap.size:=λq z=>(Ha.mem q z).2);have g5:=Aa fa;have hY:=k5.size;have ha:=X3.size;have hM:=Ha.kept.size;have hC:=K4.size;have fc:VP w0 M1 G d1 d2 d3 d4 (m+1) A2 (e.set j t) (l::M) w5:=by
      refine⟨?_,n1,by rw[Aa al];exact n2,n3,n4,λq z=>?_⟩
      .exact(HB.kept.trans (K4.mono (by simp))).trans' (Ha.kept.trans (H6.mono (by simp))) (λi S=>(HB.apart i S).1)
      .have gv:(q∈M1\/w0.heap.size<=q)/\q<wr.heap.size:=by
        have h0:=HB.kept.size;rcases mA.1 z with rfl|z
        .have h1:=g5.2.2.2.kept.size;exact⟨lx (by omega),by omega⟩
        .refine⟨?_,LE q z⟩;rcases(Ha.mem q z).1 with h|h
         .exact(HB.apart q h).1
         .exact lx (by omega)
       obtain⟨g1,g2,g3,g4⟩:=f6;exact⟨gv.1,by omega,by omega,by omega,by omega,by omega⟩
     have cr:=Aa g0 (e.set j t) d1 d2 d3 d4 w5 (l::M) gp fc;rw[Aa e2 t]at cr;have gb:B9 ((B.take k).flatMap H) M w5:=BD HJ (s:=((B.take k).flatMap H,M)) VS H6;have d0:nc (ZF M0 w3 M w5):=Ha.step (H6.mono (by simp)) (λq z=>⟨lo z,by have:=LE q z;omega⟩);have FC:nc (DC N R w5/\∀D∈R,D∉M):=⟨Nz SL.1 H6 (λ_ _ h=>by simp at h),SL.2⟩;(have ce:W.heap.size<=w5.heap.size:=by omega);refine wp_block ?_;refine Iv (T:=243) (q:=9) rfl (enters_of func176 (by kernel_rfl) rfl) cr (λq z=>by
      rcases mA.1 z with rfl|z
      .omega
      .have:=LE q z;omega) (XY B9 l ((B.take k).flatMap H) M w5) (λc _ _ o=>Yc Jx l M w5 c o) (XY.own HJ ce) (λc=>Yc.own gz ce c) ⟨M,rfl,by rw[np];exact gb,re _ _,λq z=>⟨lo z,by have:=LE q z;omega⟩⟩ ?rassign ?rbody ?rdone ?rstop
     case rassign=>
      intro l' x o HQ hx HK;(have FF:Z (Am (Br x))=26:=by unfold Am Br;rw[mI,mI];exact WB t x hx);have YP:nc (∀u∈Am (Br x),u.oneCell'=jj):=by
       intro u hu;unfold Am at hu;obtain⟨y,_,rfl⟩:=mD.1 hu;rfl
      obtain⟨EX,HZ⟩:=rd (Am (Br x));rw[HZ]at FF YP HK⊢;have RE:=Ab FF;(have ek:nc (EX.toArray.size=26):=by show _=_;simp[FF]);clear hx HZ FF;simp only[mq,mr,mt]at HK⊢;refine AN (by rfl) (Hj Ga) ?_;go_wp2_with ((with_reducible show wpList _ _ _ ({dst:=_,op:=Op.store 243 _ _,type:=_,pos:=_,after:=_,guard:=_}::_) _ _);refine oR rfl 243 _ _ rfl o.heap.size 0 (j2 EX) (by rfl) (by rfl) ?_ ?_ ?_ ?_)
      .have h:=(rf o (qV 26 (O ⟨#[]⟩)) 243).there;simp only[oO]at h;rw[Aa ek];exact h
      .rw[Aa ek];exact Tryz.zI
      .exact oe YP
      .refine HK _ (((re [] o).alloc (j1 (j2 (qV 26 (O ⟨#[]⟩))) 243)).zK (b:=o.heap.size) (lx (mP _)) EX 0) ?_;exact(rf o (qV 26 (O ⟨#[]⟩)) 243).zQ EX (by rw[Aa RE];simp)
     case rbody=>
      intro l' Bx B0 x gx I o RI S f4 hT N4;obtain⟨Mo,rfl,CW,ES⟩:=S.at_;have er:AI o N [.func (.yield l) #[] #[]] 279:=by
       have h5:=(b6 w5 d0.kept).2.2.2.2.1;refine h5.kept ES.kept (λh=>?_);rcases(Ha.mem N h).1 with h|h
       .have:=(NS N h).1;have:=Aa HN;omega
       .have h7:=c0.lt;omega
      have HY:=Ab (TL ((B.take k).flatMap H++B0) x (gx++(B.drop (k+1)).flatMap H) Mo o (by rw[Aa fk,RI];simp) CW);have cy:=er.cell 0;simp at cy;(have FF:Z (Am (Br x))=26:=by unfold Am Br;rw[mI,mI];exact WB t x (by rw[RI];simp));obtain⟨EX,HZ⟩:=rd (Am (Br x));simp only[HZ]at FF N4 HY⊢;have e7:=Ab N4;have RE:=Ab FF;have HS:=Ab ES;clear S N4 FF er CW ES f4 HZ RI;simp only[mq,mr,mt];refine wpIn_block ?_;refine ol (λK3 X0=>?_);have LL:=Ab X0;clear X0;refine QO (n:=0) 2 (by rfl) (by rintro ⟨_,_,h⟩;exact h) (λK2 ap=>?_);simp only[pk,pN];go_wp2_with ((with_reducible show wpList _ _ _ ({dst:=_,op:=Op.load 243 _,type:=_,pos:=_,after:=_,guard:=_}::_) _ _);refine BX (by rfl) 243 _ rfl Bx 0 (by rfl) EX _ e7.range underlying243 rfl (by rw[Aa RE];exact Tryz.zI) ?_)
      refine ap _ _ ?_;clear ap K2;simp only[pC,pF];refine IP (F:=Fence.wide.inRound l') (λ_=>trivial) rfl rfl (l:=l) (args:=#[oj (j2 EX)]) (by rfl) (by first|(simp[go_sem,Oper.semAt];done)|(simp[go_sem,Oper.semAt,execOp,resolve,invoke];done)) HY ?_;rintro r w6 (⟨rfl,M6,CW,Go,LC⟩|⟨rfl,M6,CW,Go⟩)
      .refine⟨_,rfl,LH (by rfl) (by rintro ⟨_,_,h⟩;exact h) ?_⟩;simp only[qY,mq,mr,mt];have HP:nc (Mw (XY B9 l ((B.take k).flatMap H) M w5) (λc _ _ o=>Yc Jx l M w5 c o) (B0++[x]) (l::Mo) o .normal ⟨#[],[]⟩ w6):=by
        (have e3:l<w6.heap.size:=by have:=Go.size;have:=HS.kept.size;omega);refine⟨Go.mono (λi S=>no _ S),l::M6,⟨M6,rfl,by rw[<-nA];exact CW,HS.step Go LC⟩,λq z=>?_⟩;rcases mA.1 z with rfl|z
        .exact⟨lo (nK ..),e3⟩
        .refine⟨?_,(LC q z).2⟩;rcases(LC q z).1 with h|h
         .exact lo (no _ h)
         .exact lx h
       clear CW Go LC HY;go_wp2;refine LL _ _ ?_;clear LL K3;refine pJ rfl (wpIn_skip ?_);exact HP
      .refine⟨_,rfl,LH (by rfl) (by rintro ⟨_,_,h⟩;exact h) ?_⟩;simp only[qY,mq,mr,mt];have HP:nc (Mw (XY B9 l ((B.take k).flatMap H) M w5) (λc _ _ o=>Yc Jx l M w5 c o) (B0++[x]) (l::Mo) o .ret ⟨#[],[]⟩ w6):=by
        refine⟨Go,M6,rfl,⟨_,M6,CW⟩,?_⟩;refine(HS.kept.mono (N:=l::M) (λi S=>no _ S)).trans' Go (λi S=>?_);rcases mA.1 S with rfl|S
        .exact lo (nK ..)
        .exact((HS.mem i S).1).imp (λh=>no _ h) id
       clear CW Go HY;go_wp2;refine LL _ _ ?_;clear LL K3;refine pO rfl (wpIn_ret ?_);exact HP
     case rdone=>
      intro D I o hD S hd gg;obtain⟨Mo,rfl,CW,ES⟩:=S.at_;have HS:nc (ZF M0 w3 Mo o):=d0.step ES.kept ES.mem;(have e0:=λq (z:q∈Mo)=>(ES.mem q z).1);have f8:nc (DC N (D::R) o/\∀d∈D::R,d∉Mo):=by
       have hm:=Nz FC.1 ES.kept FC.2;have HM:=Xv FC.1;refine⟨⟨oB.2 ⟨λh=>by have:=HM D h;omega,hm.nodup⟩,λd C=>?_,λd C=>?_⟩,λd C U0=>?_⟩
       .rcases mA.1 C with rfl|C
        .have:=Aa HN;omega
        .exact hm.ge d C
       .rcases mA.1 C with rfl|C
        .exact hd
        .exact hm.at_ d C
       .rcases mA.1 C with rfl|C
        .exact gg _ (no _ U0) rfl
        .rcases(ES.mem d U0).1 with h|h
         .exact FC.2 d C h
         .have:=HM d C;omega
      (have gw:nc (B9 ((B.take (k+1)).flatMap H) Mo o):=by rw[Aa fl];exact CW);clear S CW ES e0;refine bp _ _ ?_;clear bp;go_wp2;refine e8 _ _ (Handed.intro (L-(k+1)) (by have:=Aa HG;omega) (gr _ _ _ ?_));have gt:wrap64 ((k:Int)+1)=((k+1:Nat):Int):=iE k (by have:=Aa T0;have:=Aa HL;omega);rw[gt];exact⟨k+1,Mo,D::R,_,_,_,_,_,_,_,_,_,_,_,_,_,_,_,_,_,_,_,_,_,_,_,_,_,_,_,_,_,_,_,_,_,_,_,_,_,_,_,_,rfl,e4,rfl,gw,HS,f8⟩
     case rstop=>
      intro D c B0 I o hD hx hd;obtain rfl:=hx.ret;obtain⟨gs,Mo,f9⟩:=hx.at_;have HM:=Xv FC.1;have hm:DC W.heap.size (D::R) o:=by
       have hm:=Nz FC.1 hx.kept (λd C h=>by
        rcases mA.1 h with rfl|h
        .have:=FC.1.ge _ C;have:=Aa HN;omega
        .exact FC.2 d C h)
       refine⟨oB.2 ⟨λh=>by have:=HM D h;omega,hm.nodup⟩,λd C=>?_,λd C=>?_⟩
       .rcases mA.1 C with rfl|C
        .omega
        .have:=hm.ge d C;have:=Aa HN;omega
       .rcases mA.1 C with rfl|C
        .exact hd
        .exact hm.at_ d C
      refine wp_ret ?_;exact(Nx _ (D::R) o hm (lx ⟨gs,Mo,f9⟩)).1
    ·(have f5:¬(k:Int)<(L:Int):=by omega);have fn:nc (B9 XS M wr):=by
      have h:=Aa VS;rw[mz (by have:=Aa HL;omega),<-Aa LD]at h;exact h
     go_wp2;exact(Nx _ R wr (by rw[Aa HN];exact SL.1) (lo ⟨M,fn⟩)).2
end Go.Proofs.YtoihbhenbmffcaaGreatDoor
namespace Go.Proofs.YtoihbhenbmffcaaGreatDoor
open Go.RowKit Go.Proofs.Tryz
variable{P:Program}{w:ly}{b n:Nat}{y:rc ml}{T:TypeId}{z:ml}{B:Bool}
def MM(m:Nat)(k:rc Bw)(s:rc Af)(f:rc UInt8)(o:ly)(n:rc Nat)(u:∀t,Ac n o t->eR t m k s f)(b:Nat)(B:b<=Z f)(j:rc UInt8):∀(a:Nat) (e:rc zA) (c g d h:Nat) (w:ly) (i:rc Nat),DF e->a<=b->(f.take b).drop a=j->VP o n m c g d h a b e i w->
  Lq prog 176 #[j3 (V ⟨c,0,Y⟩),j3 (V ⟨g,0,Y⟩),j3 (V ⟨d,0,Y⟩),j3 (V ⟨h,0,Y⟩)] (λx=>#[oj (j2 (Am (Br x)))]) (Aw (JN k s) k s j e) i w:=by
 induction j with
 |nil=>
  intro a e c g d h w i p N l q
  have H:b-a=0:=by
   have:=congrArg List.length l;rw[nF,nu]at this;simp at this;omega
  obtain rfl:a=b:=by omega
  exact Wg m k s f o n u _ a e c g d h w i p q
 |cons v j ih=>
  intro a e c g d h w i p N l q
  have H:b-a=Z j+1:=by
   have:=congrArg List.length l;rw[nF,nu]at this;simp at this;omega
  have y:a<b:=by omega
  have L:a<Z (f.take b):=by rw[nu];omega
  rw[mQ L]at l;obtain⟨r,A⟩:=List.cons.inj l;rw[pP]at r;exact Vq m k s f o n u v j a b e c g d h w i p y B r q (λC E F I P z M D G=>ih (a+1) C E F I P z M D (by omega) A G)
def Oe(k:Nat)(d:rc Bw)(s:rc Af)(g:rc UInt8)(l:ly)(r:eR l k d s g)(b:Nat)(n:b<=Z g)(m:rc UInt8):∀(a:Nat) (e:rc zA) (c h f i:Nat) (w:ly) (j:rc Nat),DF e->a<=b->(g.take b).drop a=m->ec l k c h f i a b e j w->
  Lq prog 176 #[j3 (V ⟨c,0,Y⟩),j3 (V ⟨h,0,Y⟩),j3 (V ⟨f,0,Y⟩),j3 (V ⟨i,0,Y⟩)] (λx=>#[oj (j2 (Am (Br x)))]) (Aw (JN d s) d s m e) j w:=
 λa e c h f i w j q t p u=>MM k d s g l [] (λv o=>r.kept o) b n m a e c h f i w j q t p u.more
def dq{f:Func}{p q:Tmp}{c e:TypeId}(h:f.results=#[.cell p c,.cell q e]){a:Array ml}{d:TypeDesc}
  (i:a.getD p undef=j3 (V ⟨b,0,Y⟩)) (r:AI w b y T) (o:P.underlying c=V d) (g:d.isRow=jj) (s:(P.info? c).map (·.size)=V (Z y))
    (l:a.getD q undef=j3 (V ⟨n,0,Y⟩)) (j:(loadVar e ⟨n,0,Y⟩).run P w=.ok z w):
  (results f a).run P w=.ok (.tuple #[oj (j2 y),z]) w:=by
 have m:=run_loadVar_mid (P:=P) w b 0 c y d r.range o g s;have k:a[p]?.getD undef=j3 (V ⟨b,0,Y⟩):=by simpa using i
 have u:a[q]?.getD undef=j3 (V ⟨n,0,Y⟩):=by simpa using l
 simp only[results,h];simp[qi,Result.andThen,k,m,asAddr,u,j]
structure Xn(w:ly)(N:Nat)(B:Bool)(X:rc ml)(W:ly):Prop where
 kept:Ac [] w W
 b1:AI W (N+1) X 243
 b2:AI W (N+2) [q8 B] 4
def Xn.own{N c:Nat}(h:w.heap.size<=c){β:Type}(A:β->Prop):OwnFrom c (fun(s:β) W=>A s/\Xn w N B y W):=
 BF (λs W d M a k b=>⟨a.1,DS a.2.kept k b h,a.2.b1.kept k (C3 b a.2.b1),a.2.b2.kept k (C3 b a.2.b2)⟩)
def Fk(x:rc zA)(h:Z x=26):Z (Am (Br x))=26/\∀u∈Am (Br x),u.oneCell'=jj:=by
 refine⟨by unfold Am Br;rw[mI,mI];exact h,λu a=>?_⟩;unfold Am at a;obtain⟨y,_,rfl⟩:=mD.1 a;rfl
def LR:Am (Br Bl)=qV 26 (O ⟨#[]⟩):=by
 unfold Am Br Bl;rw[List.map_replicate,List.map_replicate,Q4];rfl
theorem dm(h:AI w b [q8 B] 4):(loadVar 4 ⟨b,0,Y⟩).run prog w=.ok (q8 B) w:=by
 have c:=h.cell 0;simp at c;simp[go_sem,c,underlying4]
set_option maxRecDepth 100000
theorem de(sp:Nat)(n:rc Bw)(s:rc Af)(vs:rc UInt8)(Q H:Nat)(L:rc UInt8)(e:rc zA)(w:ly)(hS:eR w sp n s vs)(he:DF e)(IA:Q<=H)(HE:H<=Z vs)(hr:(vs.take H).drop Q=L):
  Calls prog 197 #[j3 (V ⟨sp,0,Y⟩),X J Q,X J H,oj (j2 (Am (Br e)))] w λr z=>∃(x:rc zA) (B:Bool),r=kt (.tuple #[oj (j2 (Am (Br x))),q8 B])/\Z x=26/\B= !(Aw (JN n s) n s L e).isEmpty/\(B=jj->x∈Aw (JN n s) n s L e)/\Ac [] w z:=by
 have Go:nc (∀P v I S f M0,ec w sp P v I S Q H e M0 f->Lq prog 176 #[j3 (V ⟨P,0,Y⟩),j3 (V ⟨v,0,Y⟩),j3 (V ⟨I,0,Y⟩),j3 (V ⟨S,0,Y⟩)] (λx=>#[oj (j2 (Am (Br x)))]) (Aw (JN n s) n s L e) M0 f):=λP v I S f M0 hB=>Oe sp n s vs w hS H HE L Q e P v I S f M0 he IA hr hB
 have G:nc (∀x∈Aw (JN n s) n s L e,Z x=26):=G5 L e he.len;obtain⟨F,HR⟩:=rd (Aw (JN n s) n s L e);rw[HR]at Go G⊢;have hc:=Bs (Br e);obtain⟨FW,LB⟩:=Fk e he.len;have Ha:nc (∀f,Calls prog 141 #[j3 (V ⟨sp,0,Y⟩),X J Q,X J H,oj (j2 (Am (Br e)))] f λr z=>∃P v I S,r=kt (.func (.func 176) #[] #[j3 (V ⟨P,0,Y⟩),j3 (V ⟨v,0,Y⟩),j3 (V ⟨I,0,Y⟩),j3 (V ⟨S,0,Y⟩)])/\
   AI z P [j3 (V ⟨sp,0,Y⟩)] 233/\AI z v (Am (Br e)) 243/\AI z I [X J Q] 3/\AI z S [X J H] 3/\(f.heap.size<=P/\f.heap.size<=v/\f.heap.size<=I/\f.heap.size<=S)/\Ac [] f z):=λf=>Jh sp Q H _ f hc FW
 have HO:=Ab FW;obtain⟨E,hE⟩:=rd (Am (Br e));have K8:=Ab hE;rw[hE]at hc FW HO Ha⊢;obtain⟨N,hN⟩:=rd w.heap.size;have HN:=Ab hN;obtain⟨w1,AH⟩:=rd (((w.alloc (j1 (j2 E) 243)).alloc (j1 (j2 (qV 26 (O ⟨#[]⟩))) 243)).alloc (j1 #[q8 K] 4));have H3:=Ab AH;have HV:nc (AI w1 N E 243):=by
  have h:=((rf w E 243).alloc (j1 (j2 (qV 26 (O ⟨#[]⟩))) 243)).alloc (j1 #[q8 K] 4);rw[AH,hN]at h;exact h
 have A1:nc (Xn w N K (qV 26 (O ⟨#[]⟩)) w1):=by
  refine⟨?_,?_,?_⟩
  .rw[<-AH];exact(((re [] w).alloc _).alloc _).alloc _
  .have h:=(rf (w.alloc (j1 (j2 E) 243)) (qV 26 (O ⟨#[]⟩)) 243).alloc (j1 #[q8 K] 4);rw[AH,m9,hN]at h;exact h
  .have h:=rf ((w.alloc (j1 (j2 E) 243)).alloc (j1 (j2 (qV 26 (O ⟨#[]⟩))) 243)) [q8 K] 4;rw[m9,m9,hN]at h;rw[<-AH];exact h
 clear HR hE hS he IA HE hr LB AH hN;obtain⟨QQ,HB⟩:=rd (Lj (bodyPostM Fence.wide 0 prog Tryz.f197 λr z=>∃(x:rc zA) (B:Bool),r=kt (.tuple #[oj (j2 (Am (Br x))),q8 B])/\Z x=26/\B= !F.isEmpty/\(B=jj->x∈F)/\Ac [] w z));have HQ:nc (∀(CW:Array ml) (D:Nat) (f:ly) (x:rc zA) (B:Bool),CW.getD 8 undef=j3 (V ⟨N+1,0,Y⟩)->CW.getD 9 undef=j3 (V ⟨N+2,0,Y⟩)->w.heap.size<=D->f.heap[D]?=V (.deferred (V []))->Xn w N B (Am (Br x)) f->Z x=26->B= !F.isEmpty->(B=jj->x∈F)->QQ .ret ⟨CW,[EU D]⟩ f):=by
  intro CW D f x B h8 h9 hD hd i o hB hm;rw[<-HB];have HS:DC w.heap.size [D] f:=⟨by simp,λd CC=>by simp only[my]at CC;omega,λd CC=>by simp only[my]at CC;rw[CC];exact hd⟩;refine Dg [D] f HS (λz hs=>?_);have FL:=(hs.own (Xn.own (mP _) (λ_:Unit=>True)) (s:=()) HS ⟨trivial,i⟩).2;exact⟨_,dq rfl h8 FL.b1 underlying243 rfl (by rw[(Fk x o).1];exact Tryz.zI) h9 (dm FL.b2),x,B,rfl,o,hB,hm,FL.kept⟩
 refine En func197 rfl (GP ?_);rw[HB];clear HB;simp only[ntmps197,nQ,mL,m8,Nat.reduceAdd,Nat.reduceSub,pd,pg,pD,pm,nM,ot];refine ra (λK1 BA=>?_);go_wp2;refine BA _ _ ?_;clear BA K1;change Code.wp _ _ _ _ (((w.alloc (j1 (j2 E) 243)).alloc (j1 (j2 (qV 26 (O ⟨#[]⟩))) 243)).alloc (j1 #[q8 K] 4));rw[Aa H3,Aa HN];clear H3;refine ra (λK1 BA=>?_);refine ra (λK2 H1=>?_);go_wp2_with ((with_reducible show wpList _ _ _ ({dst:=_,op:=Op.load 243 _,type:=_,pos:=_,after:=_,guard:=_}::_) _ _);refine BX (by rfl) 243 _ rfl N 0 (by rfl) E _ HV.range underlying243 rfl (by rw[Aa HO];exact Tryz.zI) ?_)
 refine(Ha _).mono ?_;rintro _ w3 ⟨d1,d2,d3,d4,rfl,n1,n2,n3,n4,HX,k3⟩;have EM:nc (Xn w N K (qV 26 (O ⟨#[]⟩)) w3):=⟨A1.kept.trans k3,A1.b1.kept k3,A1.b2.kept k3⟩;have MN:=A1.b2.lt;have HP:=Aa Go d1 d2 d3 d4 w3 [N+1,N+2] ⟨EM.kept,n1,by rw[Aa K8];exact n2,n3,n4,λq t=>by
  have hn:=Aa HN
  have h3:=k3.size
  obtain⟨g1,g2,g3,g4⟩:=HX
  simp only[mA,nI,or_false]at t
  rcases t with rfl|rfl<;>omega⟩
 have Mo:=k3.size;have HF:w.heap.size<=w3.heap.size:=EM.kept.size;clear n1 n2 n3 n4 HX k3 Go Ha HV A1;go_wp2;refine H1 _ _ ?_;clear H1 K2;refine wp_block ?_;refine Iv (T:=243) (q:=10) rfl (enters_of func176 (by kernel_rfl) rfl) HP (λq t=>by
  simp only[mA,nI,or_false]at t
  rcases t with rfl|rfl<;>omega)
  (λE0 M W=>(E0=[]/\M=[N+1,N+2])/\Xn w N K (qV 26 (O ⟨#[]⟩)) W) (λc _ _ W=>c=.ret/\∃x,x∈F/\Xn w N jj (Am (Br x)) W)
  (Xn.own HF (λs:rc (rc zA)×rc Nat=>s.1=[]/\s.2=[N+1,N+2])) (λc=>BF (λs W a M hs k hM=>by
   obtain⟨h1,x,o,i⟩:=hs
   exact⟨h1,x,o,DS i.kept k hM HF,i.b1.kept k (C3 hM i.b1),i.b2.kept k (C3 hM i.b2)⟩)) ⟨⟨rfl,rfl⟩,EM⟩ ?rassign ?rbody ?rdone ?rstop
 case rassign=>
  intro l' x a M2 o HK;obtain⟨C,AB⟩:=Fk x (G x o);obtain⟨g,AR⟩:=rd (Am (Br x));rw[AR]at C AB HK⊢;have BS:=Ab AB;have G:=Ab C;have R:nc (g.toArray.size=26):=by show _=_;simp[C]
  clear o AR C AB;simp only[mq,mr,mt]at HK⊢;refine AN (by rfl) (Hj Ga) ?_;go_wp2_with ((with_reducible show wpList _ _ _ ({dst:=_,op:=Op.store 243 _ _,type:=_,pos:=_,after:=_,guard:=_}::_) _ _);refine oR rfl 243 _ _ rfl a.heap.size 0 (j2 g) (by rfl) (by rfl) ?_ ?_ ?_ ?_)
  .have h:=(rf a (qV 26 (O ⟨#[]⟩)) 243).there;simp only[oO]at h;rw[Aa R];exact h
  .rw[Aa R];exact Tryz.zI
  .exact oe BS
  .refine HK _ (((re [] a).alloc (j1 (j2 (qV 26 (O ⟨#[]⟩))) 243)).zK (b:=a.heap.size) (lx (mP _)) g 0) ?_;exact(rf a (qV 26 (O ⟨#[]⟩)) 243).zQ g (by rw[Aa G];simp)
 case rbody=>
  rintro l' Bx E0 x MY M a H5 ⟨⟨rfl,rfl⟩,i⟩ hM M3 FO;have FF:x∈F:=by rw[H5];simp
  obtain⟨C,AB⟩:=Fk x (G x FF);obtain⟨g,AR⟩:=rd (Am (Br x));have LD:=Ab AR;simp only[AR]at C AB FO⊢;have BS:=Ab AB;have G:=Ab C;have R:nc (g.toArray.size=26):=by show _=_;simp[C]
  have LM:=Ab FO;have A:=Ab i;have JJ:=Ab FF;clear i FO C AB AR H5 FF;simp only[mq,mr,mt];have m:nc (AI (a.setCells (N+1) 0 g) (N+1) g 243/\AI (a.setCells (N+1) 0 g) (N+2) [q8 K] 4/\Ac [N+1,N+2] a (a.setCells (N+1) 0 g)):=by
   refine⟨A.b1.zQ g (by rw[Aa G];simp),?_,(re _ a).zK (b:=N+1) (lo (by simp)) g 0⟩;exact A.b2.kept ((re [N+1] a).zK (b:=N+1) (lo (by simp)) g 0)
  refine wpIn_block ?_;refine ol (λK3 HW=>?_);have HM:=Ab HW;clear HW;refine AN (by rfl) (by rintro ⟨_,_,h⟩;exact h) ?_;go_wp2_with (first
   |((with_reducible show wpList _ _ _ ({dst:=_,op:=Op.load 243 _,type:=_,pos:=_,after:=_,guard:=_}::_) _ _);refine BX (by rfl) 243 _ rfl Bx 0 (by rfl) g _ LM.range underlying243 rfl (by rw[Aa G];exact Tryz.zI) ?_)
   |((with_reducible show wpList _ _ _ ({dst:=_,op:=Op.store 243 _ _,type:=_,pos:=_,after:=_,guard:=_}::_) _ _);refine oR rfl 243 _ _ rfl (N+1) 0 (j2 g) (by rfl) (by rfl) (by rw[Aa R];have h:=A.b1.there;simp only[oO]at h;exact h) (by rw[Aa R];exact Tryz.zI) (oe BS) ?_;simp only[pR];generalize a.setCells (N+1) 0 g=W2 at m;have c9:=m.2.1.cell 0;simp at c9;have f9:=m.2.1.frozen 0))
  refine HM _ _ ?_;clear HM K3;refine wpIn_ret ?_;have KS:=m.2.1.set 0 (q8 jj);have HL:Ac [N+1,N+2] a (W2.setCell ⟨N+2,0,Y⟩ (q8 jj)):=m.2.2.setCell (p:=⟨N+2,0,Y⟩) (lo (by simp)) _;refine⟨HL,[],rfl,x,JJ,A.kept.trans' HL (λq t=>lx ?_),?_,KS⟩
  .have hn:=Aa HN;simp only[mA,nI,or_false]at t;rcases t with rfl|rfl<;>omega
  .rw[Aa LD];exact m.1.zB ⟨N+2,0,Y⟩ (by simp) _
 case rdone=>
  rintro D M' a hD ⟨⟨HH,-⟩,i⟩ hd _;refine BA _ _ ?_;clear BA;have A:=Ab i;have HD:nc (w.heap.size<=D/\a.heap[D]?=V (.deferred (V []))):=⟨by omega,hd⟩;have LC:=Ab HH;clear i hd HH HP EM;obtain⟨j,hZ⟩:=rd (qV 26 (O ⟨#[]⟩));have HZ:=Ab hZ;have R:nc (j.toArray.size=26):=by show _=_;rw[<-hZ];simp
  have BS:nc (∀u∈j,u.oneCell'=jj):=λu hu=>by rw[<-hZ]at hu;rw[(List.mem_replicate.1 hu).2];rfl
  have K4:nc (Z j=26):=by show _=_;rw[<-hZ];simp
  rw[hZ]at A;clear hZ;have m:nc (Xn w N K j ((a.setCells (N+1) 0 j).setCell ⟨N+2,0,Y⟩ (q8 K))/\((a.setCells (N+1) 0 j).setCell ⟨N+2,0,Y⟩ (q8 K)).heap[D]?=V (.deferred (V []))/\AI (a.setCells (N+1) 0 j) (N+2) [q8 K] 4):=by
   have k1:Ac [N+1] a (a.setCells (N+1) 0 j):=(re [N+1] a).zK (b:=N+1) (lo (by simp)) _ 0;have v:=A.b2.kept k1;have k2:Ac [N+1,N+2] a ((a.setCells (N+1) 0 j).setCell ⟨N+2,0,Y⟩ (q8 K)):=(k1.mono (by simp)).setCell (p:=⟨N+2,0,Y⟩) (lo (by simp)) _;have Jx:D∉[N+1,N+2]:=by
    intro h;simp only[mA,nI,or_false]at h;have:=Aa HN;rcases h with rfl|rfl<;>omega
   refine⟨⟨A.kept.trans' k2 (λq t=>lx ?_),(A.b1.zQ _ (by simp)).zB ⟨N+2,0,Y⟩ (by simp) _,v.set 0 _⟩,(k2.block D (nz.1 HD.2).1 Jx).trans HD.2,v⟩;have hn:=Aa HN;simp only[mA,nI,or_false]at t;rcases t with rfl|rfl<;>omega
  go_wp2_with ((with_reducible show wpList _ _ _ ({dst:=_,op:=Op.store 243 _ _,type:=_,pos:=_,after:=_,guard:=_}::_) _ _);refine oR rfl 243 _ _ rfl (N+1) 0 (j2 j) (by rfl) (by rw[<-Aa HZ];rfl) (by rw[Aa R];have h:=A.b1.there;rw[Aa K4]at h;exact h) (by rw[Aa R];exact Tryz.zI) (oe BS) ?_;simp only[pR];generalize a.setCells (N+1) 0 j=W2 at m;have c9:=m.2.2.cell 0;simp at c9;have f9:=m.2.2.frozen 0)
  refine HQ _ D _ Bl K rfl rfl HD.1 m.2.1 ?_ rfl (by rw[Aa LC];rfl) (λh=>by cases h);rw[LR,Aa HZ];exact m.1
 case rstop=>
  rintro D c E0 M' a hD ⟨rfl,x,o,i⟩ hd;refine wp_ret ?_;refine HQ _ D _ x jj rfl rfl (by omega) hd i (G x o) ?_ (λ_=>o);cases F with
  |nil=>simp at o
  |cons y l=>rfl
end Go.Proofs.YtoihbhenbmffcaaGreatDoor
namespace Go.Proofs.YtoihbhenbmffcaaGreatDoor
open Go.RowKit Go.Proofs.Tryz
variable{f:rc Af}{e:rc zA}{w v:ly}{n m k i j b:Nat}{o:Option Addr}
def fo(b:rc UInt8)(t:AJ):Tr (Dd b) (ct t)=Dd (DP b t):=by
 have g:(ct t).v=(t.v.toNat:Int):=rfl;have d:(ct t).v≠0↔(t.v !=0)=jj:=by
  have:=ZY t;rw[nT,oI,oI]at this;simp[this]
 have c:(ct t).v∈Dd b↔b.contains t.v=jj:=by
  rw[ql,g];unfold Dd;constructor
  .intro h;obtain⟨u,f,e⟩:=mD.1 h;have:u=t.v:=oE.1 (by omega);rw[<-this];exact f
  .intro h;exact mD.2 ⟨t.v,h,rfl⟩
 unfold Tr DP;by_cases a:(t.v !=0&& !b.contains t.v)=jj
 .rw[mK a];rw[mV]at a;rw[mK ⟨d.2 a.1,λh=>by rw[c.1 h]at a;simp at a⟩];unfold Dd;rw[nk];rfl
 .rw[mJ a,mJ (λh=>a (by rw[mV];exact⟨d.1 h.1,by cases hcc:b.contains t.v with|true=>exact absurd (c.2 hcc) h.2|false=>rfl⟩))]
def RK:∀(a:rc AJ) (b:rc UInt8),(a.map ct).foldl Tr (Dd b)=Dd (DR b a)
 |[],b=>rfl
 |t::a,b=>by
  rw[mU,nh,fo,RK a];rfl
def SC(a:rc AJ):Ef (a.map ct)=Dd (DR [] a):=RK a []
def cS(r:AV):E5 r=r.head.args++(An r).flatMap BC:=by
 unfold E5 An;rw[List.flatMap_map]
 congr 1
def F3{d:UInt8->rc zA->rc zA}{g:rc Bw}{s:rc Af}(f:∀v e,∀t∈d v e,A8 t):∀(c:rc UInt8) (e:rc zA),DF e->∀b∈Aw d g s c e,DF b
 |[],e,he,b,a=>by
  rw[Aw]at a;split at a
  .simp at a
  .rw[my]at a;rw[a];exact he
 |v::c,e,he,b,a=>by
  rw[Aw]at a;split at a
  .simp at a
  .obtain⟨t,h,a⟩:=m6.1 a;exact F3 f c _ (he.set _ (f v e t h)) b a
def Nk{j:UInt8->rc zA->rc zA}{r:AV}{p:rc UInt8}(k:∀v e,∀t∈j v e,A8 t)(g:Tq r (CP r) p)(i:Nc r.head){b:rc zA}(l:b∈Aw j (An r) f (CP r) Bl):∀t∈r.head.args,A8 (AP b t):=by
 intro t c;have o:=BW (λv e t c=>(k v e t c).size) (CP r) Bl b rfl (λv m=>(g.ok v (lo m)).1) l;have n:=F3 k (CP r) Bl DF.start b l;rcases n.val (i.args t c)with h|h
 .exfalso
  by_cases d:t.v=0
  .unfold AP at h;rw[mK d]at h;rcases i.args t c with⟨_,a⟩|⟨a,_⟩
   .exact a.size h
   .rw[d]at a;exact absurd a (by decide)
  .rw[E1 d]at h;rcases g.head t c with a|a
   .exact d a
   .exact o.2.2.2 _ a h
 .exact h
def cW{r:AV}{c:CU}(b:Qy c r)(d:Nc r.head)(f:∀t∈r.head.args,A8 (AP e t)):(⟨c.hn,c.zE.map (BO (Br e))⟩:CJ)=Bq (Av e r.head):=by
 unfold Bq Av;simp only;rw[b.hn,b.zE,nN,nN]
 congr 1
 refine nL (λt a=>?_);simp only[Function.comp];rw[I3 (d.args t a),CY (f t a)]
def NH(al:UInt8->rc zA->rc zA)(r:AV)(s:rc Af)(bs:rc (rc zA)):rc Af:=
 (bs.filter λb=> !DB s (Av b r.head)&& !(Aw al (An r) s (DL r) b).isEmpty).map λb=>Av b r.head
def Uc(a:UInt8->rc zA->rc zA)(r:AV)(s:rc Af):NH a r s (Aw a (An r) s (CP r) Bl)=S4 a r (CP r) (DL r) s:=rfl
def Zs(a:UInt8->rc zA->rc zA)(r:AV)(s:rc Af)(c:rc (rc zA))(b:rc zA):NH a r s (c++[b])=NH a r s c++if(!DB s (Av b r.head)&& !(Aw a (An r) s (DL r) b).isEmpty)=jj then[Av b r.head] else[]:=by
 unfold NH;rw[oW,nk]
 congr 1
 simp only[oh,List.filter_nil];split<;>rfl
structure Rq(c:CU)(r:AV)(s:rc Af):Prop where
 zl:Qy c r
 fit:Lo c
 zR:Z (Bn c)<=90000
 lits:∀x∈An r,Dz x/\QJ (MA x)
 parts:Tq r (CP r) (DL r)
 head:Nc r.head
 fitA:au s (An r)
 canon:∀f∈s,AL f
 len:Z s<=10000
def Rq.al{c:CU}{r:AV}(h:Rq c r f):∀v e,∀t∈JN (An r) f v e,A8 t:=λv e t a=>JV h.canon h.fitA v e t ((FG (An r) f v e t).1 a)
def Rq.order{c:CU}{r:AV}(h:Rq c r f):Ef (Bn c)=Dd (CP r++DL r):=by
 rw[h.zl.zR,SC,cS,PD]
def Rq.ofHead{c:CU}{r:AV}(h:Rq c r f):Ef c.zE=Dd (CP r):=by
 rw[h.zl.zE,SC];rfl
def GX(a:rc UInt8):Z (Dd a)=Z a:=by unfold Dd;simp
def F2.fst{a:rc Mk}{b:rc Bb}(h:F2 Uy a b):a.map Prod.fst=(b.map Prod.fst).map MA:=by
 induction h using F2.ind with
 |nil=>rfl
 |cons h1 _ ih=>simp only[mU,ih,h1.eq]
def XT:∀(b:rc AJ) (a:rc UInt8),Z (DR a b)<=Z a+Z b
 |[],a=>by simp[DR]
 |t::b,a=>by
  have c:=XT b (DP a t);have d:Z (DP a t)<=Z a+1:=by unfold DP;split<;>simp
  have e:DR a (t::b)=DR (DP a t) b:=rfl;rw[e,mL];omega
def Rq.yH{c:CU}{r:AV}(h:Rq c r f):Z (CP r++DL r)<=26:=by
 have b:=(EL (r.head.args++(An r).flatMap BC) [] ph).2.1;rw[PD]at b;have d:=IE (CP r++DL r) ((List.range 26).map λi=>UInt8.ofNat (i+65)) b (λv e=>by
  have a:=(h.parts.ok v (mF.1 e)).1
  refine mD.2 ⟨v.toNat-65,qr.2 (by have:=a.1;have:=a.2;omega),?_⟩
  apply oE.1
  rw[UInt8.toNat_ofNat']
  have:=a.1
  have:=a.2
  omega)
 simpa using d
def Rq.sea{c:CU}{r:AV}(h:Rq c r f){d:Option Addr}{g:Option Addr}{a:rc Eb}(e:Qq w n m k (U o (Z c.zD) i) (U d (Z (Ef (Bn c))) j) g b a)(x:Cf w 0 (U o (Z c.zD) i) c.zD)(l:oi w 0 21 1 (U d (Z (Ef (Bn c))) j) (Z (Ef (Bn c))) ((Ef (Bn c)).flatMap AX))(p:Cx a f):eR w n (An r) f (CP r++DL r):=by
 have t:Z (An r)<=1000:=by
  have u:=congrArg List.length (F2.fst h.zl.lits);have y:=h.fit.lits;unfold An;simp at u⊢;omega
 rw[h.order]at e l;exact⟨⟨m,k,o,i,c.zD,d,j,g,b,a,e,x,F2.fst h.zl.lits,l,p⟩,h.len,h.lits,t,by have:=h.yH;omega,h.fitA,λv q=>(h.parts.ok v (mF.1 q)).1⟩
structure Vy where
 f:Eb
 n:ml
 ns:rc Eb
structure L6(w:ly)(st:Vy):Prop where
 pf:C8 w st.f
 len:Z st.f.f.zC<=1000
 nds:Io w st.n st.ns
 sl:∃a c,st.n=U a (Z st.ns) c
def L6.map{a:Vy}(h:L6 w a)(f:∀p,C8 w p->C8 v p)(g:oi w 0 104 2 a.n (Z a.ns) (a.ns.flatMap AM)->oi v 0 104 2 a.n (Z a.ns) (a.ns.flatMap AM)):L6 v a:=
 ⟨f _ h.pf,h.len,⟨g h.nds.row,λp b=>⟨f p (h.nds.each p b).1,(h.nds.each p b).2⟩⟩,h.sl⟩
def L6.kept{w w':ly}{a:Vy}(h:L6 w a)(k:Ac [] w w'):L6 w' a:=h.map (λp b=>b.kept k) (λc=>Ad c k)
def lL(r:AV)(s:rc Af)(f:CJ)(ns:rc CJ):Prop:=∃σ,(∀x∈An r,Cp (Bo σ) (Eu σ) s x=jj)/\AL (Bo σ r.head)/\f=Bq (Bo σ r.head)/\ns=(Da r σ).pos.map Bq
def gM(B:Nat)(r:AV)(s:rc Af)(st:Vy):Prop:=(∀q,st.n.ownBlock=V q->B<=q)/\lL r s st.f.f (st.ns.map Eb.f)
def jd{c:CU}{r:AV}(h:Rq c r f){b a:rc zA}(m:b∈Aw (JN (An r) f) (An r) f (CP r) Bl)(w:a∈Aw (JN (An r) f) (An r) f (DL r) b):
  lL r f (Bq (Av b r.head)) (Ke (Br a) ((An r).map MA)):=by
 have j:=h.parts;have y:∀v e,∀t∈JN (An r) f v e,t.size≠0:=λv e t d=>(h.al v e t d).size
 obtain⟨F,_,_,G⟩:=BW y (CP r) Bl b rfl (λv k=>(j.ok v (lo k)).1) m;obtain⟨I,q,E,H⟩:=BW y (DL r) b a F (λv k=>(j.ok v (lx k)).1) w;have u:∀v∈CP r,N8 a v=N8 b v:=λv k=>E v (j.ok v (lo k)).1 (j.apart v k)
 have D:DF a:=F3 h.al _ _ (F3 h.al _ _ DF.start b m) a w;have p:∀x∈An r,∀t∈BC x,(AP a t).size≠0:=by
  intro x i t d;by_cases g:t.v=0
  .rcases j.lits x i t d with h|h
   .unfold AP;rw[mK g];exact h.2
   .rw[g]at h;exact absurd h.1 (by decide)
  .rw[E1 g];rcases j.body x i t d with h|h|h
   .exact absurd h g
   .rw[u _ h];exact G _ h
   .exact H _ h
 have n:Av b r.head=Bo (LO a) r.head:=by
  unfold Av Bo
  congr 1
  refine nL (λt d=>?_);rw[Hd];by_cases g:t.v=0
  .unfold AP;rw[mK g,mK g]
  .rw[E1 g,E1 g];rcases j.head t d with h|h
   .exact absurd h g
   .exact(u _ h).symm
 refine⟨LO a,λx i=>?_,by rw[<-n];exact G0 (Nk h.al h.parts h.head m),by rw[n],?_⟩
 .have C:D2 a (BC x)=jj:=by
   unfold D2;rw[nY];intro t d;cases hE:Vz (AP a t)with
   |false=>rfl
   |true=>exact absurd ((Ep _).1 hE) (p x i t d)
  have z:Cp (Av a) (AP a) f x=jj:=by
   unfold Ex at q;have:=(oC.1 q) x i;rw[C,oy]at this;simpa using this
  rw[<-IX (e:=a) (σ:=LO a) (λt d=>(Hd a t).symm)];exact z
 .unfold Ke Da;simp only;rw[List.filter_map,nN,nN];have B:(An r).filter ((λx:PL=>x.sort==0)∘MA)=(An r).filter λx=>x.kind==97:=by
   refine List.filter_congr (λx _=>?_);show(Gu x.kind==0)=(x.kind==97);exact Tu x.kind
  rw[B];refine nL (λx i=>?_);obtain⟨i,o⟩:=mT.1 i;have l:=(h.lits x i).1;unfold Dz at l;rw[mK (by rw[o];rfl)]at l;show(⟨x.A.name,(x.A.args.map ct).map (BO (Br a))⟩:CJ)=Bq (Bo (LO a) x.A);unfold Bq Bo;simp only;rw[nN,nN]
  congr 1
  refine nL (λt d=>?_);simp only[Function.comp];rw[I3 (l.args t d),Hd];refine CY ?_;rcases D.val (l.args t d)with h|h
  .exact absurd h (p x i t (by unfold BC;rw[mK (by rw[o];rfl)];exact d))
  .exact h
def UQ{B:Nat}{r:AV}{s:rc Af}:∀(b:rc Vy) (L:rc Af),b.map (λa=>a.f.f)=L.map Bq->(∀f∈L,AL f)->(∀a∈b,gM B r s a)->
  ∃c:rc (G1 Af),c.map G1.head=L/\(∀i∈c,∃σ,(∀x∈An r,Cp (Bo σ) (Eu σ) s x=jj)/\i=Da r σ)/\b.map (λa=>(a.f.f,a.ns.map Eb.f))=c.map λi=>(Bq i.head,i.pos.map Bq)
 |[],[],_,_,_=>⟨[],rfl,λi d=>by simp at d,rfl⟩
 |[],_::_,h,_,_=>by simp at h
 |_::_,[],h,_,_=>by simp at h
 |a::b,f::L,h,hL,hs=>by
  simp only[mU,oA]at h;obtain⟨c,o,n,p⟩:=UQ b L h.2 (λg q=>hL g (by simp[q])) (λx t=>hs x (by simp[t]));obtain⟨_,σ,l,k,e,j⟩:=hs a (by simp);have m:Bo σ r.head=f:=Ma k (hL f (by simp)) (by rw[<-e,h.1]);refine⟨Da r σ::c,?_,?_,?_⟩
  .simp only[mU,o];rw[show(Da r σ).head=f from m]
  .intro i d;rcases mA.1 d with rfl|d
   .exact⟨σ,l,rfl⟩
   .exact n i d
  .simp only[mU,p];rw[j,e];rfl
def Ly(k:Nat)(st:Vy):rc ml:=[O st.f.f.name,st.f.tv,X J k,st.n]
section
variable {P:Program} {ops:Array Oper} {Q:Exit->Act->ly->Prop} {md:Region.Mode} {S:ly->Prop} {k:Nat}
def Cz.two{i j:Nat}{l m:Oper}{g:Nat}{f:Array Bool}{a:Act}{w:ly}(t:Region.ready md ops f=[i,j])(A:ops[i]?=V l)(u:ops[j]?=V m)
  (y:∀c:Act->ly->Prop,nc (∀d b,(i≠k->S b)->Cz P md ops Q S k g (f.setIfInBounds i jj) d b->c d b)->
   if Region.wanted l (yielded ops a.tmps)=jj then l.wp P a w c Q else c (a.put l.dst undef) w)
  (z:∀c:Act->ly->Prop,nc (∀d b,(j≠k->S b)->Cz P md ops Q S k g (f.setIfInBounds j jj) d b->c d b)->
   if Region.wanted m (yielded ops a.tmps)=jj then m.wp P a w c Q else c (a.put m.dst undef) w):Cz P md ops Q S k (g+1) f a w:=by
 have r:∀(q:Nat) (o:Oper),ops[q]?=V o->(∀c:Act->ly->Prop,nc (∀d b,(q≠k->S b)->Cz P md ops Q S k g (f.setIfInBounds q jj) d b->c d b)->
   if Region.wanted o (yielded ops a.tmps)=jj then o.wp P a w c Q else c (a.put o.dst undef) w)->wpOp P ops Q q (λd b=>(q≠k->S b)/\Cz P md ops Q S k g (f.setIfInBounds q jj) d b) a w:=by
  intro q o x h;have e:=h _ (λd b v e=>And.intro v e);unfold wpOp;simp only[x];split
  .rename_i p;rw[mK p]at e;exact .inl e
  .rename_i p;rw[mJ p]at e;exact e
 refine⟨λs=>(by rw[t]at s;cases s),λq n=>?_⟩;rw[t]at n;simp only[mA,nI,or_false]at n;rcases n with rfl|rfl
 .exact r _ _ A y
 .exact r _ _ u z
end
