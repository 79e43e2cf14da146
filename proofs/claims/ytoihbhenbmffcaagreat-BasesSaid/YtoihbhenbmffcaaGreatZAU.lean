import Derived.Test.YtoihbhenbmffcaaGreatZAT
set_option linter.all false
set_option maxHeartbeats 0
open List renaming length->Z,toArray->j1,replicate->kD
open Option renaming none->Y,some->V
open Go.Value renaming slice->U,int->X,string->O,pointer->j2,agg->kx
open Bool renaming true->hG
open Go.Ending renaming returned->j3
open Or renaming inl->kn,inr->kp
open Go renaming World->kq
open Go.RowKit renaming Hid->kt
open Go.World renaming cell?->ku
open Go.Act renaming put->kG
namespace Go.Proofs.YtoihbhenbmffcaaGreat
open Go.RowKit Go.Proofs.Tryz
variable{w v u:kq}{n m:Nat}{f:kJ Ag}{P:Program}{Q:Exit->Act->kq->Prop}{a:Act}{M:kJ Nat}
def aj{α β:Type}(f:α->kJ β)(l:kJ α)(k:Nat)(a:k<Z l):l.flatMap f=(l.take k).flatMap f++(f l[k]++(l.drop (k+1)).flatMap f):=by
 conv=>lhs;rw[<-gL k l,fR,fQ a,fN]
def Wk{α β:Type}(f:α->kJ β)(l:kJ α)(k:Nat)(a:k<Z l):(l.take (k+1)).flatMap f=(l.take k).flatMap f++f l[k]:=by
 rw[fm a,fR];simp
def cC{a:kJ BH}{s:kJ Ag}(m:∀f∈s,AQ f)(j:Zr s a)(v:UInt8)(e:kJ zA):Z (Kv a s v e)<=Z s:=by
 have g:=Hd a s v e;cases hl:CT a s v e with
 |nil=>
  cases ha:Kv a s v e with
  |nil=>simp
  |cons t l=>
   have h:=(g t).1 (by rw[ha];simp);exact absurd hl h.1
 |cons l ls=>
  have c:l∈CT a s v e:=by rw[hl];simp
  have n:Z l<=Z s:=by
   unfold CT at c;obtain⟨x,p,b⟩:=ig.1 c;by_cases d:(x.kind==97)=hG
   .rw[fF d,jm]at b;obtain⟨i,o,rfl⟩:=b;unfold Gm;rw[fH];exact ib _ _
   .rw[fB d]at b;cases b
  have:=Md (Kv a s v e) l (Rz m j v e) (λt k=>((g t).1 k).2 l c);omega
def dd{a:kJ BH}{b:kJ UInt8}(h:di w n a f b)(v:UInt8)(e:kJ zA):Z (Kv a f v e)<=10000:=by
 obtain⟨u,o,x,m,k,p,d,t,j,q,l,g,r,i,c⟩:=h.at_;have:=cC c.canon h.fit v e;have:=h.len;omega
section
variable {P:Program} {ops:Array Oper} {Q:Exit->Act->kq->Prop} {md:Region.Mode} {S:kq->Prop} {k:Nat}
def Ci.firstH{i:Nat}{n:Oper}{v:Value}(A:ops[i]?=V n)(G:∀(j:Nat) (o:Oper) p b,ops[j]?=V o->o.op≠ .select p b)
  (T:∀c a w,Q (.panic c) (a.put n.dst v) w->Q (.panic c) a w) (hW:ops.size<=k):
  ∀(r:Nat) (f:Array Bool) (a:Act) (w:kq),
   (∀j m,ops[j]?=V m->j≠i->f.getD j hG=false->(∀e∈m.after,Region.binds md e=hG->e.on≠i)->n.apart ops m=hG)->
   i∈Region.ready md ops f->YieldsIf P ops S n v a->S w->
   Ci P md ops Q S k r (f.setIfInBounds i hG) (a.put n.dst v) w->Ci P md ops Q S k (r+1) f a w:=by
 intro r
 induction r with
 |zero=>
  intro f a w _ l u t H;refine⟨λh=>(by rw[h]at l;cases l),λj s=>?_⟩;by_cases d:j=i
  .subst d;exact u.wpOp A t ⟨λ_=>t,H⟩
  .have:=ready_mono s d;rw[H.1]at this;cases this
 |succ r ih=>
  intro f a w D l u t H;have F:=(mem_ready.1 l).1;refine⟨λh=>(by rw[h]at l;cases l),λj s=>?_⟩;by_cases d:j=i
  .subst d;exact u.wpOp A t ⟨λ_=>t,H⟩
  .have C:j≠k:=λe=>by
    obtain⟨_,o,ho,_⟩:=mem_ready.1 s;have:=(gB.1 ho).1;omega
   have h1:=H.2 j (ready_mono s d);obtain⟨B,m,y,Bx⟩:=mem_ready.1 s;have Ax:∀e∈m.after,Region.binds md e=hG->e.on≠i:=λe he N R=>by
    have g:=Bx e he N;rw[R]at g;rcases Nat.lt_or_ge i f.size with z|z
    .simp[z]at F g;rw[F]at g;cases g
    .simp[jX z]at g
   have g:=wpOp_putIf y (D j m y d B Ax) (λp b=>G i n p b A) (λp b=>G j m p b y) T u h1;refine wpOp_mono (λa' M x=>⟨λ_=>x.2.1 C,ih (f.setIfInBounds j hG) a' M (λq oq W AT I L=>D q oq W AT ?_ L) (ready_mono l (Ne.symm d)) x.1 (x.2.1 C) ?_⟩) g
   .by_cases E:j=q
    .subst E;exact B
    .rw[getD_set_ne hG E]at I;exact I
   .rw[Array.setIfInBounds_comm _ _ d];exact x.2.2
def Ci.zu{i:Nat}{d:Oper}{v:Value}{e:Nat}{b:Array Bool}{a:Act}{w:kq}(f:ops[i]?=V d)
  (o:Region.noSelect ops=hG) (g:Region.free md ops b i=hG) (n:(Region.ready md ops b).contains i=hG) (j:ops.size<=k)
  (p:∀c a w,Q (.panic c) (a.put d.dst v) w->Q (.panic c) a w) (m:S w) (l:YieldsIf P ops S d v a)
  (h:Ci P md ops Q S k e (b.setIfInBounds i hG) (a.put d.dst v) w):Ci P md ops Q S k (e+1) b a w:=
 Ci.firstH f (Region.noSelect_spec o) p j e b a w (Region.free_spec f g) (by simpa using n) l m h
def Ci.tkH{i:Nat}{d:Oper}{v:Value}{f:Nat}{e:Array Bool}{a:Act}{w:kq}(n:ops[i]?=V d)(b:eR md ops e i (decide (ops.size<=k))=hG)
  (m:∀c a w,Q (.panic c) (a.put d.dst v) w->Q (.panic c) a w) (l:kt (S w)) (g:Region.wanted d (yielded ops a.tmps)=hG) (j:∀w,S w->(execOp a.eval d).run P w=.ok (.value v) w)
  (h:Ci P md ops Q S k f (e.setIfInBounds i hG) (a.put d.dst v) w):Ci P md ops Q S k (f+1) e a w:=by
 unfold eR at b;simp only[fU,jg]at b;exact Ci.zu n b.1.1.1 b.1.1.2 b.1.2 b.2 m l (kn ⟨g,j⟩) h
theorem Ci.tqH{i:Nat}{b:Oper}{v:Value}{e:Nat}{d:Array Bool}{a:Act}{w:kq}(n:ops[i]?=V b)(g:∀c a w,Q (.panic c) (a.put b.dst v) w->Q (.panic c) a w)(l:kt (S w))(h:Ci P md ops Q S k e (d.setIfInBounds i hG) (a.put b.dst v) w)(m:eR md ops d i (decide (ops.size<=k))=hG:=by kernel_rfl)(f:Region.wanted b (yielded ops a.tmps)=hG:=by rfl)
  (j:∀w,S w->(execOp a.eval b).run P w=.ok (.value v) w:=by(intro o p;(try go_split_ands);go_simp)):Ci P md ops Q S k (e+1) d a w:=Ci.tkH n m g l f j h
end
def bU(k:Nat)(h:k<=1000000):wrap64 ((k:Int)+1)=((k+1:Nat):Int):=by
 unfold wrap64;omega
def PM(Q:Exit->Act->kq->Prop):Exit->Act->kq->Prop
 | .panic _,_,_=>False
 | .outgrown,_,_=>False
 |e,a,w=>Q e a w
def LG{c:Code}(h:c.wp P (PM Q) a w):c.wp P Q a w:=wp_mono h (λe a w h=>by
 cases e<;>first|exact h|exact h.elim)
structure Zs(M0:kJ Nat)(w3:kq)(M:kJ Nat)(w:kq):Prop where
 kept:Ac M0 w3 w
 mem:∀q∈M,(q∈M0\/w3.heap.size<=q)/\q<w.heap.size
def Zs.step{b M e:kJ Nat}(h:Zs b v M w)(k:Ac M w u)(d:∀q∈e,(q∈M\/w.heap.size<=q)/\q<u.heap.size):Zs b v e u:=
 ⟨h.kept.trans' k (λi f=>(h.mem i f).1),λq c=>⟨by
  rcases(d q c).1 with a|a
  .exact(h.mem q a).1
  .exact kp (gQ h.kept.size a),(d q c).2⟩⟩
structure bq(J:kJ (kJ zA)->kJ Nat->kq->Prop)(l:Nat)(P0:kJ (kJ zA))(M:kJ Nat)(w5:kq)(pre:kJ (kJ zA))(M':kJ Nat)(W:kq):Prop where
 at_:∃Mo,M'=l::Mo/\J (P0++pre) Mo W/\Zs M w5 Mo W
structure bA(Jx:kJ (kJ zA)->kJ Nat->kq->Prop)(l:Nat)(M:kJ Nat)(w5:kq)(c:Code)(W:kq):Prop where
 ret:c=.ret
 at_:∃pre Mo,Jx pre Mo W
 kept:Ac (l::M) w5 W
def bq.own{d:kJ (kJ zA)->kJ Nat->kq->Prop}{f:kJ (kJ zA)}(o:OwnFrom n (fun(s:kJ (kJ zA)×kJ Nat) W=>d s.1 s.2 W))(t:n<=w.heap.size):OwnFrom w.heap.size (fun(s:kJ (kJ zA)×kJ Nat) W=>bq d m f M w s.1 s.2 W):=λs A C j p b a=>by
 obtain⟨h,k,i,c⟩:=p.at_;refine⟨h,k,o (f++s.1,h) A C j i b (λr e=>⟨by have:=(a r e).1;omega,(a r e).2⟩),c.kept.grown b (λr e=>kp (a r e).1),λq g=>⟨(c.mem q g).1,iM (c.mem q g).2 b.size⟩⟩
def bA.own{h:kJ (kJ zA)->kJ Nat->kq->Prop}(k:OwnFrom n (fun(s:kJ (kJ zA)×kJ Nat) W=>h s.1 s.2 W))(o:n<=w.heap.size)(c:Code):OwnFrom w.heap.size (fun(s:kJ (kJ zA)×kJ Nat) W=>bA h m M w c W):=λs A C j b f a=>by
 obtain⟨d,g,i⟩:=b.at_;exact⟨b.ret,⟨d,g,k (d,g) A C j i f (λr e=>⟨by have:=(a r e).1;omega,(a r e).2⟩)⟩,b.kept.grown f (λr e=>kp (a r e).1)⟩
def JV{d:UInt8->kJ zA->kJ zA}{f:kJ BH}{s:kJ Ag}:∀(c:kJ UInt8) (e:kJ zA),Z e=26->∀b∈AE d f s c e,Z b=26
 |[],e,he,b,a=>by
  rw[AE]at a;split at a
  .simp at a
  .rw[ft]at a;rw[a];exact he
 |v::c,e,he,b,a=>by
  rw[AE]at a;split at a
  .simp at a
  .obtain⟨t,_,a⟩:=gc.1 a;exact JV c _ (by rw[iR];exact he) b a
def Lj{a:kJ Nat}(h:Ea n a w)(k:Ac M w v)(c:∀D∈a,D∉M):Ea n a v:=
 ⟨h.nodup,h.ge,λD b=>(k.block D (gB.1 (h.at_ D b)).1 (c D b)).trans (h.at_ D b)⟩
def Up(h:Ea n M w):∀D∈M,D<w.heap.size:=λD a=>(gB.1 (h.at_ D a)).1
set_option maxRecDepth 100000
theorem SD(sp:Nat)(body:kJ BH)(s:kJ Ag)(vs:kJ UInt8)(w0:kq)(M1:kJ Nat)(hS0:∀wz,Ac M1 w0 wz->di wz sp body s vs)(v:UInt8)(rest:kJ UInt8)(from_ zy:Nat)(e:kJ zA)(b1 b2 b3 b4:Nat)(w:kq)(M0:kJ Nat)(he:De e)
  (hlt:from_<zy) (hto:zy<=Z vs) (hv:vs[from_]'(by omega)=v) (hB:UD w0 M1 sp b1 b2 b3 b4 from_ zy e M0 w)
  (ih:∀(e':kJ zA) (c1 c2 c3 c4:Nat) (w':kq) (M:kJ Nat),De e'->UD w0 M1 sp c1 c2 c3 c4 (from_+1) zy e' M w'->
   Le prog 160 #[j2 (V ⟨c1,0,Y⟩),j2 (V ⟨c2,0,Y⟩),j2 (V ⟨c3,0,Y⟩),j2 (V ⟨c4,0,Y⟩)] (λx=>#[kx (j1 (Ai (Bt x)))]) (AE (Kv body s) body s rest e') M w'):
  Le prog 160 #[j2 (V ⟨b1,0,Y⟩),j2 (V ⟨b2,0,Y⟩),j2 (V ⟨b3,0,Y⟩),j2 (V ⟨b4,0,Y⟩)] (λx=>#[kx (j1 (Ai (Bt x)))]) (AE (Kv body s) body s (v::rest) e) M0 w:=by
 intro l J Jx W hkW hl1 hl2 hJ hJx hR hJ0;have hS:=hS0 _ hB.kept;have hvo:Gg v:=by rw[<-hv];exact hS.ok _ (fj _)
 have hB1:=hB.grow hkW;have HFa:kt (∀wz,Ac [] W wz->Calls prog 161 #[j2 (V ⟨sp,0,Y⟩),kx (j1 (Ai (Bt e)))] wz λr w'=>r=j3 (.bool (Ef body s e))/\Ac [] wz w'):=λwz hk=>Sf (hS0 _ (hB1.kept.trans (hk.mono (by simp)))) he
 have HAl:kt (∀wz,Ac [] W wz->Calls prog 162 #[j2 (V ⟨sp,0,Y⟩),X .i32 (v.toNat:Int),kx (j1 (Ai (Bt e)))] wz λr w'=>∃(ad:Option Addr) (cp:Nat),r=j3 (U ad (Z ((Kv body s v e).map AA)) cp)/\
   w'.ownsRow wz.heap.size 98 1 (U ad (Z ((Kv body s v e).map AA)) cp) (Z ((Kv body s v e).map AA)) (((Kv body s v e).map AA).flatMap Ah)/\Ac [] wz w'):=λwz hk=>Tx (hS0 _ (hB1.kept.trans (hk.mono (by simp)))) he hvo
 have hc:=Bh (Bt e);have hl26:Z (Ai (Bt e))=26:=by unfold Ai;rw[fH];exact G9 he
 have HL26:=Ab hl26;have HO26:kt (∀u∈Ai (Bt e),u.oneCell'=hG):=by
  intro u hu;unfold Ai at hu;obtain⟨y,_,rfl⟩:=fC.1 hu;rfl
 have HX:kt (AE (Kv body s) body s (v::rest) e=if Ef body s e then[] else(Kv body s v e).flatMap λt=>AE (Kv body s) body s rest (e.set (v.toNat-65) t)):=by show _=_;rw[AE]
 have HCa:kt (∀t∈Kv body s v e,A1 t):=YR hS v e;have HTl:kt (Z (Kv body s v e)<=10000):=dd hS v e;have HEt:kt (∀t,A1 t->De (e.set (v.toNat-65) t)/\Ai (Bt (e.set (v.toNat-65) t))=(Ai (Bt e)).set (v.toNat-65) (O (AA t))):=λt ht=>⟨he.set _ ht,by rw[cj e _ ht];unfold Ai;rw[km]⟩
 obtain⟨kb,ko,bv,og,ocap,hsb,hog⟩:=YY hS from_ (by omega)
 rw[hv]at hog;have HSt:kt (∀wz,Ac [] W wz->ku wz ⟨sp,2,Y⟩=V (U (V ⟨og,0,Y⟩) (Z vs) ocap)/\ku wz ⟨og,from_,Y⟩=V (X .i32 (v.toNat:Int))):=λwz hk=>by
  have h1:=(hsb.kept (hkW.trans hk)).cell 2;simp at h1;exact⟨h1,(hkW.trans hk).cellAt hog⟩
 have HIh:=Ab ih;have HRo:=Ab hR;have HJ:=Ab hJ;have HJx:=Ab hJx;have HJ0:=Ab hJ0;have HB:=Ab hB1;have HLl:kt (w.heap.size<=l/\l<W.heap.size/\Ac [] w W/\UD w0 M1 sp b1 b2 b3 b4 from_ zy e M0 w):=⟨hl1,hl2,hkW,hB⟩
 have HVo:=Ab hvo;obtain⟨j,hj⟩:∃j:Nat,v.toNat-65=j:=⟨_,rfl⟩;have HVj:kt ((v.toNat:Int)=(j:Int)+65/\j<26):=by
  obtain⟨h1,h2⟩:=hvo;exact⟨by omega,by omega⟩
 rw[hj]at HX HEt;obtain⟨TH,hTH⟩:=kK (Kv body s v e);rw[hTH]at HX HCa HAl HTl;obtain⟨BT,hBT⟩:∃BT:zA->kJ (kJ zA),(λt=>AE (Kv body s) body s rest (e.set j t))=BT:=⟨_,rfl⟩;have HBT:kt (∀t,AE (Kv body s) body s rest (e.set j t)=BT t):=λt=>by rw[<-hBT]
 have HLx:kt (∀t,∀x∈BT t,Z x=26):=λt x hx=>by
  rw[<-hBT]at hx;exact JV rest _ (by rw[iR];exact he.len) x hx
 rw[hBT]at HX;obtain⟨XS,hXS⟩:=kK (AE (Kv body s) body s (v::rest) e);rw[hXS]at HX HRo⊢;obtain⟨F,hF⟩:=kK (Ef body s e);rw[hF]at HX HFa;obtain⟨E,hE⟩:=kK (Ai (Bt e));have HEe:=Ab hE;have hB2:=hB1.bound;rw[hE]at hc hl26 HL26 HO26 HFa HAl HEt hB2;have hVj:=Aa HVj;rw[hVj.1]at HAl HSt;have c1:=hB1.s.cell 0;have c3:=hB1.fr.cell 0;have c4:=hB1.zy.cell 0;simp at c1 c3 c4;have HCs:kt (∀wz,Ac [] W wz->AF wz b2 E 244/\ku wz ⟨b1,0,Y⟩=V (j2 (V ⟨sp,0,Y⟩))/\ku wz ⟨b3,0,Y⟩=V (X .i64 from_)/\ku wz ⟨b4,0,Y⟩=V (X .i64 zy)):=λwz hk=>⟨hB2.kept hk,hk.cellAt c1,hk.cellAt c3,hk.cellAt c4⟩
 have hne:((from_:Int)==(zy:Int))=false:=by simp;omega
 have hf0:(0:Int)<=(from_:Int):=by omega
 have hf1:(from_:Int)<(Z vs:Int):=by omega
 have hvl:=hS.zs;have hwr:IntKind.i64.wrap ((from_:Int)+1)=(from_:Int)+1:=by rw[jn];omega
 obtain⟨VL,hVL⟩:=kK (Z vs);rw[hVL]at hf1 HSt;have HAp:kt (∀k∈M0,k<W.heap.size/\k≠b1/\k≠b2/\k≠b3/\k≠b4):=λk hk=>by
  obtain⟨_,h2,h3,h4,h5,h6⟩:=hB1.apart k hk;exact⟨h6,h2,h3,h4,h5⟩
 obtain⟨QQ,hQQ⟩:=kK (PM (bodyPostM Fence.wide 0 prog Tryz.f160 λe W'=>(∃v,e=j3 v)/\((∃M',J XS M' W')\/(∃pre M',Jx pre M' W'))));have HQp:kt (∀c a w,¬QQ (.panic c) a w):=by
  intro c a w h;rw[<-hQQ]at h;exact h
 have HLv:kt (∀(tmps:Array Value) (ds:kJ Nat) (wz:kq),Ea W.heap.size ds wz->((∃M',J XS M' wz)\/(∃pre M',Jx pre M' wz))->QQ .ret ⟨tmps,ds.map FU⟩ wz/\QQ .normal ⟨tmps,ds.map FU⟩ wz):=by
  intro tmps ds wz hm hp;rw[<-hQQ];have key:LeavesInM Fence.wide 0 prog Tryz.f160 tmps (λe W'=>(∃v,e=j3 v)/\((∃M',J XS M' W')\/(∃pre M',Jx pre M' W'))) (ds.map FU) .returning wz:=by
   refine Eg ds wz hm (λw' hs=>⟨_,jR rfl _ _ _,⟨_,rfl⟩,?_⟩);rcases hp with⟨M',h⟩|⟨pre,M',h⟩
   .exact kn ⟨M',hs.own hJ (s:=(XS,M')) hm h⟩
   .exact kp ⟨pre,M',hs.own hJx (s:=(pre,M')) hm h⟩
  exact⟨key,key⟩
 have HK1:=Ab ((kL [] W).alloc (.cells #[.func (.yield l) #[] #[]] 257));have HB5:=Ab (kN W [.func (.yield l) #[] #[]] 257);show Calls prog 160 #[.func (.yield l) #[] #[],j2 (V ⟨b1,0,Y⟩),j2 (V ⟨b2,0,Y⟩),j2 (V ⟨b3,0,Y⟩),j2 (V ⟨b4,0,Y⟩)] W _;refine F6 func160 rfl (LG ?_);rw[hQQ];clear hQQ hB hB1 hB2 hR hJ hJ0 hJx hXS hE hF c1 c3 c4 hkW hl1 hl2 ih hS hS0 he hv hvo hsb hog hj hTH hBT hVL hVj hto hvl hlt;simp only[ntmps160,gS,fD,gh,Nat.reduceAdd,Nat.reduceSub,ju,jv,jG,jB,ia,iO];refine kI (λK1 HKk=>?_);go_wp2;refine HKk _ _ ?_;clear HKk K1;change Code.wp _ _ _ _ (W.alloc (.cells [.func (.yield l) #[] #[]].toArray 257));generalize hw1:W.alloc (.cells [.func (.yield l) #[] #[]].toArray 257)=w1 at HK1 HB5⊢;clear hw1;obtain⟨N,hN⟩:=kK W.heap.size;have HN:=Ab hN;rw[hN]at HB5⊢;clear hN;obtain⟨q2,q1,q3,q4⟩:=HCs w1 HK1;have HFb:=Ab (HFa w1 HK1);have Hq2:=Ab q2;clear q2;refine kI (λK1 HKk=>?_);go_wp2_with ((with_reducible show wpList _ _ _ ({dst:=_,op:=Op.load 244 _,type:=_,pos:=_,after:=_,guard:=_}::_) _ _);refine Bv (by rfl) 244 _ rfl b2 0 (by rfl) E _ Hq2.range underlying244 rfl (by rw[Aa HL26];exact Tryz.size244) ?_)
 refine HFb.mono ?_;rintro _ w2 ⟨rfl,k2⟩;have HK2:=Ab (HK1.trans k2);have HB52:=Ab (HB5.kept k2);have HJ2:kt (J [] M0 w2):=Bz HJ (s:=([],M0)) HJ0 HK2;clear k2 q1 q3 q4 Hq2 HFb HFa HK1 HB5;cases F with
 |true=>
  have HXe:kt (XS=[]):=by show _=_;rw[Aa HX,fF rfl]
  go_wp2;exact(HLv _ [] w2 ⟨i7,λ_ h=>by simp at h,λ_ h=>by simp at h⟩ (kn ⟨M0,by rw[Aa HXe];exact HJ2⟩)).1
 |false=>
  have HXe:kt (XS=TH.flatMap BT):=by show _=_;rw[Aa HX,fB (by simp)]
  clear HX;go_wp2;refine HKk _ _ ?_;clear HKk K1;obtain⟨r2,r1,r3,r4⟩:=HCs w2 HK2;clear r2;refine kI (λK1 HKk=>?_);go_wp2;refine HKk _ _ ?_;clear HKk K1;obtain⟨o1,o2⟩:=HSt w2 HK2;refine kI (λK1 HKk=>?_)
  .refine Cn 7 (λwz=>ku wz ⟨b1,0,Y⟩=V (j2 (V ⟨sp,0,Y⟩))/\ku wz ⟨b3,0,Y⟩=V (X .i64 from_)/\ku wz ⟨sp,2,Y⟩=V (U (V ⟨og,0,Y⟩) VL ocap)/\ku wz ⟨og,from_,Y⟩=V (X .i32 ((j:Int)+65))) (by kernel_rfl) ?_
   have HHS:kt (ku w2.drew ⟨b1,0,Y⟩=V (j2 (V ⟨sp,0,Y⟩))/\ku w2.drew ⟨b3,0,Y⟩=V (X .i64 from_)/\ku w2.drew ⟨sp,2,Y⟩=V (U (V ⟨og,0,Y⟩) VL ocap)/\ku w2.drew ⟨og,from_,Y⟩=V (X .i32 ((j:Int)+65))):=⟨r1,r3,o1,o2⟩
   refine Ci.tq (i:=0) (v:=j2 (V ⟨sp,0,Y⟩)) rfl (Bk HQp) HHS ?_;simp only[kG,ff,fh,fi];refine Ci.tq (i:=1) (v:=j2 (V ⟨sp,0,Y⟩)) rfl (Bk HQp) HHS ?_;simp only[kG,ff,fh,fi];refine Ci.tq (i:=2) (v:=j2 (V ⟨sp,2,Y⟩)) rfl (Bk HQp) HHS ?_;simp only[kG,ff,fh,fi];refine Ci.tq (i:=3) (v:=U (V ⟨og,0,Y⟩) VL ocap) rfl (Bk HQp) HHS ?_;simp only[kG,ff,fh,fi];refine Ci.tq (i:=4) (v:=X .i64 from_) rfl (Bk HQp) HHS ?_
   simp only[kG,ff,fh,fi];refine Ci.tq (i:=5) (v:=j2 (V ⟨og,from_,Y⟩)) rfl (Bk HQp) HHS ?_;simp only[kG,ff,fh,fi];refine Ci.tq (i:=6) (v:=X .i32 ((j:Int)+65)) rfl (Bk HQp) HHS ?_;simp only[kG,ff,fh,fi];refine Ci.one (i:=7) (by kernel_rfl) rfl (λK hK=>?_)
   go_simp
   refine hK.out _ _ (λh=>absurd rfl h) ?_;clear hK K;refine Ci.done (by kernel_rfl) ?_ _
   try simp only[kG,ff,fh,fi]
   refine HKk _ _ ?_;clear HKk K1 HHS r1 r3 r4 o1 o2;have HK3:=Ab (HK2.drew);have HJ3:kt (J [] M0 w2.drew):=Bz HJ (s:=([],M0)) HJ2 (kL [] w2).drew;have HB53:=Ab (HB52.drew);generalize w2.drew=w2d at HK3 HJ3 HB53⊢;clear HK2 HJ2 HB52;obtain⟨r2,r1,r3,r4⟩:=HCs w2d HK3;have Hr2:=Ab r2;have HAb:=Ab (HAl w2d HK3);clear r2 HAl;go_wp2_with ((with_reducible show wpList _ _ _ ({dst:=_,op:=Op.load 244 _,type:=_,pos:=_,after:=_,guard:=_}::_) _ _);refine Bv (by rfl) 244 _ rfl b2 0 (by rfl) E _ Hr2.range underlying244 rfl (by rw[Aa HL26];exact Tryz.size244) ?_)
   refine HAb.mono ?_;rintro _ w3 ⟨ad,cp,rfl,hrow,k3⟩;have HK4:=Ab (HK3.trans k3);have HJ4:kt (J [] M0 w3):=Bz HJ (s:=([],M0)) HJ3 k3;have HB54:=Ab (HB53.kept k3);have HRow:=Ab (Al hrow (show W.heap.size<=w2d.heap.size from HK3.size))
   obtain⟨L,hL⟩:=kK (Z (TH.map AA));(have HL:kt (Z TH=L):=by show _=_;rw[<-hL,fH]);rw[hL]at HRow⊢;clear hrow k3 hL HAb HK3 HJ3 HB53 r1 r3 r4 Hr2;have HOw:kt (∀wz,Ac M0 w3 wz->AF wz b2 E 244/\AF wz b1 [j2 (V ⟨sp,0,Y⟩)] 237/\AF wz b3 [X .i64 from_] 3/\AF wz b4 [X .i64 zy] 3/\AF wz N [.func (.yield l) #[] #[]] 257/\wz.ownsRow N 98 1 (U ad L cp) L ((TH.map AA).flatMap Ah)):=by
    intro wz hk;have hb:=HB.grow HK4;have hb2:=hb.bound;rw[Aa HEe]at hb2;have hap:=Aa HAp;have hn:=Aa HN;refine⟨hb2.kept hk (λh=>(hap _ h).2.2.1 rfl),hb.s.kept hk (λh=>(hap _ h).2.1 rfl),hb.fr.kept hk (λh=>(hap _ h).2.2.2.1 rfl),hb.zy.kept hk (λh=>(hap _ h).2.2.2.2 rfl),HB54.kept hk (λh=>by have:=(hap _ h).1;omega),?_⟩;have hr:=Aa HRow;rw[hn]at hr;exact Am hr hk (λi hi hm=>by have h1:=(hr.lt i hi).1;have h2:=(hap i hm).1;omega)
   (go_wp2_with fail);refine wp_loop_ghost_k (λgk a wr=>∃(k:Nat) (M ds:kJ Nat) (y7 y8 y9 y10 y11 y12 y13 y14 y15 y16 y17 y18 y19 y20 y21 y22 y23 y24 y25 y26 y27 y28 y32 y33 y34 y35 y36 y37 y38 y39 y40 y41 y42 y43 y44 y45 y46 y47 y48 y49:Value),a=⟨#[.func (.yield l) #[] #[],j2 (V ⟨b1,0,Y⟩),j2 (V ⟨b2,0,Y⟩),j2 (V ⟨b3,0,Y⟩),j2 (V ⟨b4,0,Y⟩),j2 (V ⟨N,0,Y⟩),X .i32 ((j:Int)+65),y7,y8,y9,y10,y11,y12,y13,y14,y15,y16,y17,y18,y19,y20,y21,y22,y23,y24,y25,y26,y27,y28,U ad L cp,X .i64 L,X .i64 k,y32,y33,y34,y35,y36,y37,y38,y39,y40,y41,y42,y43,y44,y45,y46,y47,y48,y49],ds.map FU⟩/\k<=L/\gk=L-k/\kt (J ((TH.take k).flatMap BT) M wr)/\kt (Zs M0 w3 M wr)/\kt (Ea N ds wr/\∀D∈ds,D∉M)) L ?start ?round
   case start=>
    refine⟨0,M0,[],_,_,_,_,_,_,_,_,_,_,_,_,_,_,_,_,_,_,_,_,_,_,_,_,_,_,_,_,_,_,_,_,_,_,_,_,_,_,_,_,rfl,by omega,rfl,by rw[jJ];exact HJ4,⟨kL _ _,λq hq=>⟨kn hq,?_⟩⟩,⟨⟨i7,λ_ h=>by simp at h,λ_ h=>by simp at h⟩,λ_ h=>by simp at h⟩⟩;have h1:=(HAp q hq).1;have h2:=HK4.size;omega
   case round=>
    rintro gk a wr ⟨k,M,ds,y7,y8,y9,y10,y11,y12,y13,y14,y15,y16,y17,y18,y19,y20,y21,y22,y23,y24,y25,y26,y27,y28,y32,y33,y34,y35,y36,y37,y38,y39,y40,y41,y42,y43,y44,y45,y46,y47,y48,y49,rfl,hk,hgk,HJk,HOk,HMk⟩ JJ KK hJJ hKK;have HG:=Ab hgk;have HJJ:=Ab hJJ;have HKK:=Ab hKK;clear hgk hJJ hKK HJ4;by_cases hkl:k<L
    .obtain⟨s2,s1,s3,s4,s5,s6⟩:=HOw wr HOk.kept;(have hTk:k<Z TH:=by have:=Aa HL;omega);obtain⟨g,cap,hsl,hcell⟩:=F1 (l:=TH.map AA) (by rw[fH,Aa HL];exact s6) k (by rw[fH];exact hTk);rw[fH,Aa HL]at hsl;simp only[fg]at hsl;obtain⟨rfl,-,rfl⟩:=hsl;rw[List.getElem_map]at hcell;obtain⟨t,ht⟩:=kK (TH[k]);rw[ht]at hcell;(have htc:A1 t:=by rw[<-ht];exact HCa _ (fj hTk));obtain⟨het,hEt⟩:=HEt t htc;(have HXk:kt (XS=(TH.take k).flatMap BT++(BT t++(TH.drop (k+1)).flatMap BT)):=by show _=_;rw[Aa HXe,aj BT TH k hTk,ht]);(have HTk:kt ((TH.take (k+1)).flatMap BT=(TH.take k).flatMap BT++BT t):=by show _=_;rw[Wk BT TH k hTk,ht]);have HEt2:=Ab hEt;have HeT:=Ab het;(have hr0:(0:Int)<=(k:Int):=by omega);(have hr1:(k:Int)<(L:Int):=by omega);have hs2:=Ab s2;have c1:=s1.cell 0;have c3:=s3.cell 0;have c4:=s4.cell 0;simp at c1 c3 c4;have HS2:kt (∀wz,Ac [] wr wz->wz.rangeAt b2 0 E/\Ac [] wr wz/\ku wz ⟨b1,0,Y⟩=V (j2 (V ⟨sp,0,Y⟩))/\ku wz ⟨b3,0,Y⟩=V (X .i64 from_)/\ku wz ⟨b4,0,Y⟩=V (X .i64 zy)):=λwz hk=>⟨(s2.kept hk).range,hk,hk.cellAt c1,hk.cellAt c3,hk.cellAt c4⟩
     (have HWi:kt (∀wz,Calls prog 163 #[kx (j1 E),X .i32 ((j:Int)+65),O (AA t)] wz λr w'=>r=j3 (kx (j1 (E.set j (O (AA t)))))/\Ac [] wz w'):=λwz=>Yi E j (AA t) wz hl26 HVj.2 hc HO26);have HBw:kt (∀wz,Calls prog 146 #[j2 (V ⟨sp,0,Y⟩),X .i64 ((from_:Int)+1),X .i64 zy,kx (j1 (E.set j (O (AA t))))] wz λr w'=>∃b1 b2 b3 b4,r=j3 (.func (.func 160) #[] #[j2 (V ⟨b1,0,Y⟩),j2 (V ⟨b2,0,Y⟩),j2 (V ⟨b3,0,Y⟩),j2 (V ⟨b4,0,Y⟩)])/\
       AF w' b1 [j2 (V ⟨sp,0,Y⟩)] 237/\AF w' b2 (E.set j (O (AA t))) 244/\AF w' b3 [X .i64 ((from_+1:Nat):Int)] 3/\AF w' b4 [X .i64 zy] 3/\(wz.heap.size<=b1/\wz.heap.size<=b2/\wz.heap.size<=b3/\wz.heap.size<=b4)/\Ac [] wz w'):=λwz=>by
      have h:=JQ sp (from_+1) zy (Ai (Bt (e.set j t))) wz (Bh _) (by unfold Ai;rw[fH];exact G9 het);rw[hEt]at h;rw[show((from_:Int)+1)=((from_+1:Nat):Int) by omega];exact h
     clear ht htc het hEt s1 s3 s4 s5 s6 s2 c1 c3 c4;generalize AA t=tb at hcell HWi HBw HEt2;refine kI (λK1 HKk=>?_);go_wp2;refine HKk _ _ ?_;clear HKk K1;refine kI (λK1 HKk=>?_);go_wp2;refine HKk _ _ ?_;clear HKk K1;refine kI (λK5 HK5=>?_);refine wp_block ?_;refine kI (λK1 HKk=>?_);go_wp2;refine HKk _ _ ?_;clear HKk K1 hcell;refine kI (λK6 HK6=>?_);refine Cn 9 (λwz=>wz.rangeAt b2 0 E/\Ac [] wr wz/\ku wz ⟨b1,0,Y⟩=V (j2 (V ⟨sp,0,Y⟩))/\ku wz ⟨b3,0,Y⟩=V (X .i64 from_)/\ku wz ⟨b4,0,Y⟩=V (X .i64 zy)) (by kernel_rfl) ?_
     have HHS:=Ab (HS2 wr.drew (kL [] wr).drew);refine Ci.tqH (i:=0) (v:=j2 (V ⟨sp,0,Y⟩)) rfl (Bk HQp) HHS ?_;simp only[kG,ff,fh,fi];refine Ci.tqH (i:=1) (v:=X .i64 from_) rfl (Bk HQp) HHS ?_
     simp only[kG,ff,fh,fi];refine Ci.tqH (i:=2) (v:=X .i64 ((from_:Int)+1)) rfl (Bk HQp) HHS ?_;simp only[kG,ff,fh,fi];refine Ci.tqH (i:=3) (v:=X .i64 zy) rfl (Bk HQp) HHS ?_;simp only[kG,ff,fh,fi];refine Ci.zu (i:=4) (v:=kx (j1 E)) rfl (by kernel_rfl) (by kernel_rfl) (by kernel_rfl) (by decide) (λ_ _ _ h=>absurd h (HQp _ _ _)) HHS (yieldsIf_load_mid (by rfl) 244 _ rfl b2 0 (by rfl) E _ (λwz hz=>hz.1) underlying244 rfl (by rw[Aa HL26];exact Tryz.size244)) ?_;simp only[kG,ff,fh,fi];refine Ci.tqH (i:=5) (v:=X .i32 ((j:Int)+65)) rfl (Bk HQp) HHS ?_;simp only[kG,ff,fh,fi];refine Ci.tqH (i:=6) (v:=O tb) rfl (Bk HQp) HHS ?_;simp only[kG,ff,fh,fi];refine Ci.one (i:=7) (by kernel_rfl) rfl (λK hK=>?_)
     go_simp
     refine(HWi _).mono ?_;rintro _ w4 ⟨rfl,k4⟩;have hk4:Ac [] wr w4:=(kL [] wr).drew.trans k4;refine hK.out _ _ (λ_=>HS2 w4 hk4) ?_;clear hK K;have HK4':=Ab hk4;clear k4 hk4
     try simp only[kG,ff,fh,fi]
     refine Ci.one (i:=8) (by kernel_rfl) rfl (λK hK=>?_)
     go_simp
     refine(HBw _).mono ?_;rintro _ w5 ⟨d1,d2,d3,d4,rfl,n1,n2,n3,n4,hds,k5⟩;have hk5:Ac [] wr w5:=HK4'.trans k5;refine hK.out _ _ (λ_=>HS2 w5 hk5) ?_;clear hK K;refine Ci.done (by kernel_rfl) ?_ _
     try simp only[kG,ff,fh,fi]
     refine HK6 _ _ ?_;clear HK6 K6 HHS HWi HBw HS2;(have hMw:∀q∈M,q<wr.heap.size:=λq hq=>(HOk.mem q hq).2);have hl5:=Aa HLl;have hsz5:=k5.size;have hsz4:=HK4'.size;have hszr:=HOk.kept.size;have hszw:=HK4.size;have hbt:UD w0 M1 sp d1 d2 d3 d4 (from_+1) zy (e.set j t) (l::M) w5:=by
      refine⟨?_,n1,by rw[Aa HEt2];exact n2,n3,n4,λq hq=>?_⟩
      .exact(HB.kept.trans (HK4.mono (by simp))).trans' (HOk.kept.trans (hk5.mono (by simp))) (λi hi=>(HB.apart i hi).1)
      .have hq2:(q∈M1\/w0.heap.size<=q)/\q<wr.heap.size:=by
        have h0:=HB.kept.size;rcases fx.1 hq with rfl|hq
        .have h1:=hl5.2.2.2.kept.size;exact⟨kp (by omega),by omega⟩
        .refine⟨?_,hMw q hq⟩;rcases(HOk.mem q hq).1 with h|h
         .exact(HB.apart q h).1
         .exact kp (by omega)
       obtain⟨g1,g2,g3,g4⟩:=hds;exact⟨hq2.1,by omega,by omega,by omega,by omega,by omega⟩
     have zh:=Aa HIh (e.set j t) d1 d2 d3 d4 w5 (l::M) HeT hbt;rw[Aa HBT t]at zh;have hJ5:J ((TH.take k).flatMap BT) M w5:=Bz HJ (s:=((TH.take k).flatMap BT,M)) HJk hk5;have HO5:kt (Zs M0 w3 M w5):=HOk.step (hk5.mono (by simp)) (λq hq=>⟨kn hq,by have:=hMw q hq;omega⟩);have HM5:kt (Ea N ds w5/\∀D∈ds,D∉M):=⟨Lj HMk.1 hk5 (λ_ _ h=>by simp at h),HMk.2⟩;(have hB5s:W.heap.size<=w5.heap.size:=by omega);refine wp_block ?_;refine Iq (T:=244) (q:=9) rfl (enters_of func160 (by kernel_rfl) rfl) zh (λq hq=>by
      rcases fx.1 hq with rfl|hq
      .omega
      .have:=hMw q hq;omega) (bq J l ((TH.take k).flatMap BT) M w5) (λc _ _ W'=>bA Jx l M w5 c W') (bq.own HJ hB5s) (λc=>bA.own HJx hB5s c) ⟨M,rfl,by rw[gd];exact hJ5,kL _ _,λq hq=>⟨kn hq,by have:=hMw q hq;omega⟩⟩ ?rassign ?rbody ?rdone ?rstop
     case rassign=>
      intro l' x W' K hx HK;(have hxl:Z (Ai (Bt x))=26:=by unfold Ai Bt;rw[fH,fH];exact HLx t x hx);have HXo:kt (∀u∈Ai (Bt x),u.oneCell'=hG):=by
       intro u hu;unfold Ai at hu;obtain⟨y,_,rfl⟩:=fC.1 hu;rfl
      obtain⟨EX,hEX⟩:=kK (Ai (Bt x));rw[hEX]at hxl HXo HK⊢;have HXl:=Ab hxl;(have HXa:kt (EX.toArray.size=26):=by show _=_;simp[hxl]);clear hx hEX hxl;simp only[ff,fh,fi]at HK⊢;refine CM (by rfl) (J2 Is) ?_;go_wp2_with ((with_reducible show wpList _ _ _ ({dst:=_,op:=Op.store 244 _ _,type:=_,pos:=_,after:=_,guard:=_}::_) _ _);refine iJ rfl 244 _ _ rfl W'.heap.size 0 (j1 EX) (by rfl) (by rfl) ?_ ?_ ?_ ?_)
      .have h:=(kN W' (kD 26 (O ⟨#[]⟩)) 244).there;simp only[iI]at h;rw[Aa HXa];exact h
      .rw[Aa HXa];exact Tryz.size244
      .exact gZ HXo
      .refine HK _ (((kL [] W').alloc (.cells (j1 (kD 26 (O ⟨#[]⟩))) 244)).zI (b:=W'.heap.size) (kp (fJ _)) EX 0) ?_;exact(kN W' (kD 26 (O ⟨#[]⟩)) 244).zO EX (by rw[Aa HXl];simp)
     case rbody=>
      intro l' Bx pre x rest' M' W' hxs hi hM' hBx hblk;obtain⟨Mo,rfl,hj6,ho6⟩:=hi.at_;have hyB:AF W' N [.func (.yield l) #[] #[]] 257:=by
       have h5:=(HOw w5 HO5.kept).2.2.2.2.1;refine h5.kept ho6.kept (λh=>?_);rcases(HOk.mem N h).1 with h|h
       .have:=(HAp N h).1;have:=Aa HN;omega
       .have h7:=HB54.lt;omega
      have HY:=Ab (HRo ((TH.take k).flatMap BT++pre) x (rest'++(TH.drop (k+1)).flatMap BT) Mo W' (by rw[Aa HXk,hxs];simp) hj6);have cy:=hyB.cell 0;simp at cy;(have hxl:Z (Ai (Bt x))=26:=by unfold Ai Bt;rw[fH,fH];exact HLx t x (by rw[hxs];simp));obtain⟨EX,hEX⟩:=kK (Ai (Bt x));simp only[hEX]at hxl hblk HY⊢;have HBl:=Ab hblk;have HXl:=Ab hxl;have HO6:=Ab ho6;clear hi hblk hxl hyB hj6 ho6 hM' hEX hxs;simp only[ff,fh,fi];refine wpIn_block ?_;refine j5 (λK3 hK3=>?_);have HK3':=Ab hK3;clear hK3;refine OT (n:=0) 2 (by rfl) (by rintro ⟨_,_,h⟩;exact h) (λK2 HK2'=>?_);simp only[iX,jJ];go_wp2_with ((with_reducible show wpList _ _ _ ({dst:=_,op:=Op.load 244 _,type:=_,pos:=_,after:=_,guard:=_}::_) _ _);refine Bv (by rfl) 244 _ rfl Bx 0 (by rfl) EX _ HBl.range underlying244 rfl (by rw[Aa HXl];exact Tryz.size244) ?_)
      refine HK2' _ _ ?_;clear HK2' K2;simp only[ji,jK];refine Jb (F:=Fence.wide.inRound l') (λ_=>trivial) rfl rfl (l:=l) (args:=#[kx (j1 EX)]) (by rfl) (by first|(simp[go_sem,Oper.semAt];done)|(simp[go_sem,Oper.semAt,execOp,resolve,invoke];done)) HY ?_;rintro r w6 (⟨rfl,M6,hj6,hk6,hM6⟩|⟨rfl,M6,hj6,hk6⟩)
      .refine⟨_,rfl,JF (by rfl) (by rintro ⟨_,_,h⟩;exact h) ?_⟩;simp only[kG,ff,fh,fi];have HP:kt (Q0 (bq J l ((TH.take k).flatMap BT) M w5) (λc _ _ W'=>bA Jx l M w5 c W') (pre++[x]) (l::Mo) W' .normal ⟨#[],[]⟩ w6):=by
        (have hll:l<w6.heap.size:=by have:=hk6.size;have:=HO6.kept.size;omega);refine⟨hk6.mono (λi hi=>gu _ hi),l::M6,⟨M6,rfl,by rw[<-gF];exact hj6,HO6.step hk6 hM6⟩,λq hq=>?_⟩;rcases fx.1 hq with rfl|hq
        .exact⟨kn (gJ ..),hll⟩
        .refine⟨?_,(hM6 q hq).2⟩;rcases(hM6 q hq).1 with h|h
         .exact kn (gu _ h)
         .exact kp h
       clear hj6 hk6 hM6 HY;go_wp2;refine HK3' _ _ ?_;clear HK3' K3;refine wpIn_cond_false rfl (wpIn_skip ?_);exact HP
      .refine⟨_,rfl,JF (by rfl) (by rintro ⟨_,_,h⟩;exact h) ?_⟩;simp only[kG,ff,fh,fi];have HP:kt (Q0 (bq J l ((TH.take k).flatMap BT) M w5) (λc _ _ W'=>bA Jx l M w5 c W') (pre++[x]) (l::Mo) W' .ret ⟨#[],[]⟩ w6):=by
        refine⟨hk6,M6,rfl,⟨_,M6,hj6⟩,?_⟩;refine(HO6.kept.mono (N:=l::M) (λi hi=>gu _ hi)).trans' hk6 (λi hi=>?_);rcases fx.1 hi with rfl|hi
        .exact kn (gJ ..)
        .exact((HO6.mem i hi).1).imp (λh=>gu _ h) id
       clear hj6 hk6 HY;go_wp2;refine HK3' _ _ ?_;clear HK3' K3;refine wpIn_cond_true rfl (wpIn_ret ?_);exact HP
     case rdone=>
      intro D M' W' hD hi hd hDM;obtain⟨Mo,rfl,hj6,ho6⟩:=hi.at_;have HO6:kt (Zs M0 w3 Mo W'):=HO5.step ho6.kept ho6.mem;(have hDl:=λq (hq:q∈Mo)=>(ho6.mem q hq).1);have HM6:kt (Ea N (D::ds) W'/\∀d∈D::ds,d∉Mo):=by
       have hm:=Lj HM5.1 ho6.kept HM5.2;have hlt:=Up HM5.1;refine⟨⟨iv.2 ⟨λh=>by have:=hlt D h;omega,hm.nodup⟩,λd hd'=>?_,λd hd'=>?_⟩,λd hd' hm'=>?_⟩
       .rcases fx.1 hd' with rfl|hd'
        .have:=Aa HN;omega
        .exact hm.ge d hd'
       .rcases fx.1 hd' with rfl|hd'
        .exact hd
        .exact hm.at_ d hd'
       .rcases fx.1 hd' with rfl|hd'
        .exact hDM _ (gu _ hm') rfl
        .rcases(ho6.mem d hm').1 with h|h
         .exact HM5.2 d hd' h
         .have:=hlt d hd';omega
      (have HJ6:kt (J ((TH.take (k+1)).flatMap BT) Mo W'):=by rw[Aa HTk];exact hj6);clear hi hj6 ho6 hDl;refine HK5 _ _ ?_;clear HK5;go_wp2;refine HKK _ _ (Handed.intro (L-(k+1)) (by have:=Aa HG;omega) (HJJ _ _ _ ?_));have hcast:wrap64 ((k:Int)+1)=((k+1:Nat):Int):=bU k (by have:=Aa HTl;have:=Aa HL;omega);rw[hcast];exact⟨k+1,Mo,D::ds,_,_,_,_,_,_,_,_,_,_,_,_,_,_,_,_,_,_,_,_,_,_,_,_,_,_,_,_,_,_,_,_,_,_,_,_,_,_,_,_,rfl,hkl,rfl,HJ6,HO6,HM6⟩
     case rstop=>
      intro D c pre M' W' hD hx hd;obtain rfl:=hx.ret;obtain⟨pre',Mo,hjx⟩:=hx.at_;have hlt:=Up HM5.1;have hm:Ea W.heap.size (D::ds) W':=by
       have hm:=Lj HM5.1 hx.kept (λd hd' h=>by
        rcases fx.1 h with rfl|h
        .have:=HM5.1.ge _ hd';have:=Aa HN;omega
        .exact HM5.2 d hd' h)
       refine⟨iv.2 ⟨λh=>by have:=hlt D h;omega,hm.nodup⟩,λd hd'=>?_,λd hd'=>?_⟩
       .rcases fx.1 hd' with rfl|hd'
        .omega
        .have:=hm.ge d hd';have:=Aa HN;omega
       .rcases fx.1 hd' with rfl|hd'
        .exact hd
        .exact hm.at_ d hd'
      refine wp_ret ?_;exact(HLv _ (D::ds) W' hm (kp ⟨pre',Mo,hjx⟩)).1
    ·(have hr1:¬(k:Int)<(L:Int):=by omega);have HJe:kt (J XS M wr):=by
      have h:=Aa HJk;rw[fo (by have:=Aa HL;omega),<-Aa HXe]at h;exact h
     go_wp2;exact(HLv _ ds wr (by rw[Aa HN];exact HMk.1) (kn ⟨M,HJe⟩)).2
