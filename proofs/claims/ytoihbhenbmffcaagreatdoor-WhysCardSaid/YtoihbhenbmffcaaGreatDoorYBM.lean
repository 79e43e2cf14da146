import Derived.Test.YtoihbhenbmffcaaGreatDoorYBL
set_option linter.all false
set_option maxHeartbeats 0
open List renaming length->Z,toArray->j2,replicate->jL
open Option renaming none->Y,some->V
open Go.Value renaming slice->U,int->X,string->O,pointer->j3,agg->jH
open Bool renaming true->jj
open Go.Ending renaming returned->j4
open Or renaming inl->j5,inr->j6
open Go renaming World->j7
open Go.RowKit renaming Hid->j9
open Go.World renaming cell?->jF
open Go.Act renaming put->jO
namespace Go.Proofs.YtoihbhenbmffcaaGreatDoor
open Go.RowKit Go.Proofs.Tryz
def Z5{α β:Type}(f:α->List β)(l:List α)(k:Nat)(a:k<Z l):l.flatMap f=(l.take k).flatMap f++(f l[k]++(l.drop (k+1)).flatMap f):=by
 conv=>lhs;rw[<-fH k l,eY,eQ a,eN]
def VQ{α β:Type}(f:α->List β)(l:List α)(k:Nat)(a:k<Z l):(l.take (k+1)).flatMap f=(l.take k).flatMap f++f l[k]:=by
 rw[ep a,eY];simp
def bY{a:List BF}{s:List Af}(m:∀f∈s,AM f)(j:Ze s a)(v:UInt8)(e:List g0):Z (Kv a s v e)<=Z s:=by
 have g:=G2 a s v e;cases hl:C1 a s v e with
 |nil=>
  cases ha:Kv a s v e with
  |nil=>simp
  |cons t l=>
   have h:=(g t).1 (by rw[ha];simp);exact absurd hl h.1
 |cons l ls=>
  have c:l∈C1 a s v e:=by rw[hl];simp
  have n:Z l<=Z s:=by
   unfold C1 at c;obtain⟨x,p,b⟩:=gA.1 c;by_cases d:(x.kind==97)=jj
   .rw[eI d,iE]at b;obtain⟨i,o,rfl⟩:=b;unfold F9;rw[eL];exact fZ _ _
   .rw[eE d]at b;cases b
  have:=LY (Kv a s v e) l (Q7 m j v e) (λt k=>((g t).1 k).2 l c);omega
def cM{w:j7}{b:Nat}{a:List BF}{s:List Af}{c:List UInt8}(h:cO w b a s c)(v:UInt8)(e:List g0):Z (Kv a s v e)<=10000:=by
 obtain⟨t,n,u,m,k,o,f,r,j,p,l,g,q,i,d⟩:=h.at_;have:=bY d.canon h.fit v e;have:=h.len;omega
section
variable {P:Program} {ops:Array Oper} {Q:Exit->Act->j7->Prop} {md:Region.Mode} {S:j7->Prop} {k:Nat}
def CI.firstH{i:Nat}{n:Oper}{v:Value}(A:ops[i]?=V n)(G:∀(j:Nat) (o:Oper) p b,ops[j]?=V o->o.op≠ .select p b)
  (T:∀c a w,Q (.panic c) (a.put n.dst v) w->Q (.panic c) a w) (hW:ops.size<=k):
  ∀(r:Nat) (f:Array Bool) (a:Act) (w:j7),
   (∀j m,ops[j]?=V m->j≠i->f.getD j jj=false->(∀e∈m.after,Region.binds md e=jj->e.on≠i)->n.apart ops m=jj)->
   i∈Region.ready md ops f->YieldsIf P ops S n v a->S w->
   CI P md ops Q S k r (f.setIfInBounds i jj) (a.put n.dst v) w->CI P md ops Q S k (r+1) f a w:=by
 intro r
 induction r with
 |zero=>
  intro f a w _ l u t H;refine⟨λh=>(by rw[h]at l;cases l),λj s=>?_⟩;by_cases d:j=i
  .subst d;exact u.wpOp A t ⟨λ_=>t,H⟩
  .have:=ready_mono s d;rw[H.1]at this;cases this
 |succ r ih=>
  intro f a w D l u t H;have F:=(mem_ready.1 l).1;refine⟨λh=>(by rw[h]at l;cases l),λj s=>?_⟩;by_cases d:j=i
  .subst d;exact u.wpOp A t ⟨λ_=>t,H⟩
  .have C:j≠k:=λe=>by
    obtain⟨_,o,ho,_⟩:=mem_ready.1 s;have:=(fx.1 ho).1;omega
   have h1:=H.2 j (ready_mono s d);obtain⟨B,m,y,A1⟩:=mem_ready.1 s;have Ax:∀e∈m.after,Region.binds md e=jj->e.on≠i:=λe he N R=>by
    have g:=A1 e he N;rw[R]at g;rcases Nat.lt_or_ge i f.size with z|z
    .simp[z]at F g;rw[F]at g;cases g
    .simp[jl z]at g
   have g:=wpOp_putIf y (D j m y d B Ax) (λp b=>G i n p b A) (λp b=>G j m p b y) T u h1;refine wpOp_mono (λa' M x=>⟨λ_=>x.2.1 C,ih (f.setIfInBounds j jj) a' M (λq oq W A0 I L=>D q oq W A0 ?_ L) (ready_mono l (Ne.symm d)) x.1 (x.2.1 C) ?_⟩) g
   .by_cases E:j=q
    .subst E;exact B
    .rw[getD_set_ne jj E]at I;exact I
   .rw[Array.setIfInBounds_comm _ _ d];exact x.2.2
def CI.yE{i:Nat}{d:Oper}{v:Value}{fuel:Nat}{b:Array Bool}{a:Act}{w:j7}(e:ops[i]?=V d)
  (n:Region.noSelect ops=jj) (f:Region.free md ops b i=jj) (m:(Region.ready md ops b).contains i=jj) (g:ops.size<=k)
  (o:∀c a w,Q (.panic c) (a.put d.dst v) w->Q (.panic c) a w) (l:S w) (j:YieldsIf P ops S d v a)
  (h:CI P md ops Q S k fuel (b.setIfInBounds i jj) (a.put d.dst v) w):CI P md ops Q S k (fuel+1) b a w:=
 CI.firstH e (Region.noSelect_spec n) o g fuel b a w (Region.free_spec e f) (by simpa using m) j l h
def CI.tkH{i:Nat}{d:Oper}{v:Value}{fuel:Nat}{e:Array Bool}{a:Act}{w:j7}(m:ops[i]?=V d)(b:dZ md ops e i (decide (ops.size<=k))=jj)
  (l:∀c a w,Q (.panic c) (a.put d.dst v) w->Q (.panic c) a w) (j:j9 (S w)) (f:Region.wanted d (yielded ops a.tmps)=jj) (g:∀w,S w->(execOp a.eval d).run P w=.ok (.value v) w)
  (h:CI P md ops Q S k fuel (e.setIfInBounds i jj) (a.put d.dst v) w):CI P md ops Q S k (fuel+1) e a w:=by
 unfold dZ at b;simp only[eW,im]at b;exact CI.yE m b.1.1.1 b.1.1.2 b.1.2 b.2 l j (j5 ⟨f,g⟩) h
end
def bH(k:Nat)(h:k<=1000000):wrap64 ((k:Int)+1)=((k+1:Nat):Int):=by
 unfold wrap64;omega
def Mx(Q:Exit->Act->j7->Prop):Exit->Act->j7->Prop
 | .panic _,_,_=>False
 | .outgrown,_,_=>False
 |e,a,w=>Q e a w
def Ja{P:Program}{c:Code}{Q:Exit->Act->j7->Prop}{a:Act}{w:j7}(h:c.wp P (Mx Q) a w):c.wp P Q a w:=wp_mono h (λe a w h=>by
 cases e<;>first|exact h|exact h.elim)
structure Zf(M0:List Nat)(w3:j7)(M:List Nat)(w:j7):Prop where
 kept:Ac M0 w3 w
 mem:∀q∈M,(q∈M0\/w3.heap.size<=q)/\q<w.heap.size
def Zf.step{b M f:List Nat}{d w w':j7}(h:Zf b d M w)(k:Ac M w w')(e:∀q∈f,(q∈M\/w.heap.size<=q)/\q<w'.heap.size):Zf b d f w':=
 ⟨h.kept.trans' k (λi g=>(h.mem i g).1),λq c=>⟨by
  rcases(e q c).1 with a|a
  .exact(h.mem q a).1
  .exact j6 (fJ h.kept.size a),(e q c).2⟩⟩
structure aY(J:List (List g0)->List Nat->j7->Prop)(l:Nat)(P0:List (List g0))(M:List Nat)(w5:j7)(pre:List (List g0))(M':List Nat)(W:j7):Prop where
 at_:∃Mo,M'=l::Mo/\J (P0++pre) Mo W/\Zf M w5 Mo W
structure be(Jx:List (List g0)->List Nat->j7->Prop)(l:Nat)(M:List Nat)(w5:j7)(c:Code)(W:j7):Prop where
 ret:c=.ret
 at_:∃pre Mo,Jx pre Mo W
 kept:Ac (l::M) w5 W
def aY.own{f:List (List g0)->List Nat->j7->Prop}{B l:Nat}{g:List (List g0)}{M:List Nat}{d:j7}(n:OwnFrom B (fun(s:List (List g0)×List Nat) W=>f s.1 s.2 W))(p:B<=d.heap.size):OwnFrom d.heap.size (fun(s:List (List g0)×List Nat) W=>aY f l g M d s.1 s.2 W):=λs A C k o b a=>by
 obtain⟨i,m,j,c⟩:=o.at_;refine⟨i,m,n (g++s.1,i) A C k j b (λr e=>⟨by have:=(a r e).1;omega,(a r e).2⟩),c.kept.grown b (λr e=>j6 (a r e).1),λq h=>⟨(c.mem q h).1,gI (c.mem q h).2 b.size⟩⟩
def be.own{i:List (List g0)->List Nat->j7->Prop}{B l:Nat}{M:List Nat}{b:j7}(m:OwnFrom B (fun(s:List (List g0)×List Nat) W=>i s.1 s.2 W))(n:B<=b.heap.size)(c:Code):OwnFrom b.heap.size (fun(s:List (List g0)×List Nat) W=>be i l M b c W):=λs A C k d g a=>by
 obtain⟨f,h,j⟩:=d.at_;exact⟨d.ret,⟨f,h,m (f,h) A C k j g (λr e=>⟨by have:=(a r e).1;omega,(a r e).2⟩)⟩,d.kept.grown g (λr e=>j6 (a r e).1)⟩
def JV{al:UInt8->List g0->List g0}{d:List BF}{s:List Af}:∀(c:List UInt8) (e:List g0),Z e=26->∀b∈AE al d s c e,Z b=26
 |[],e,he,b,a=>by
  rw[AE]at a;split at a
  .simp at a
  .rw[ex]at a;rw[a];exact he
 |v::c,e,he,b,a=>by
  rw[AE]at a;split at a
  .simp at a
  .obtain⟨t,_,a⟩:=fA.1 a;exact JV c _ (by rw[fY];exact he) b a
def Lc{B:Nat}{M:List Nat}{ds:List Nat}{w w':j7}(h:D5 B ds w)(k:Ac M w w')(b:∀D∈ds,D∉M):D5 B ds w':=
 ⟨h.nodup,h.ge,λD a=>(k.block D (fx.1 (h.at_ D a)).1 (b D a)).trans (h.at_ D a)⟩
def TZ{B:Nat}{ds:List Nat}{w:j7}(h:D5 B ds w):∀D∈ds,D<w.heap.size:=λD a=>(fx.1 (h.at_ D a)).1
set_option maxRecDepth 100000
theorem R7(sp:Nat)(body:List BF)(s:List Af)(vs:List UInt8)(w0:j7)(M1:List Nat)(hS0:∀wz,Ac M1 w0 wz->cO wz sp body s vs)(v:UInt8)(rest:List UInt8)(from_ ze:Nat)(e:List g0)(b1 b2 b3 b4:Nat)(w:j7)(M0:List Nat)(he:Da e)
  (zX:from_<ze) (hto:ze<=Z vs) (hv:vs[from_]'(by omega)=v) (hB:Ue w0 M1 sp b1 b2 b3 b4 from_ ze e M0 w)
  (ih:∀(e':List g0) (c1 c2 c3 c4:Nat) (w':j7) (M:List Nat),Da e'->Ue w0 M1 sp c1 c2 c3 c4 (from_+1) ze e' M w'->
   K0 prog 176 #[j3 (V ⟨c1,0,Y⟩),j3 (V ⟨c2,0,Y⟩),j3 (V ⟨c3,0,Y⟩),j3 (V ⟨c4,0,Y⟩)] (λx=>#[jH (j2 (Ai (Bv x)))]) (AE (Kv body s) body s rest e') M w'):
  K0 prog 176 #[j3 (V ⟨b1,0,Y⟩),j3 (V ⟨b2,0,Y⟩),j3 (V ⟨b3,0,Y⟩),j3 (V ⟨b4,0,Y⟩)] (λx=>#[jH (j2 (Ai (Bv x)))]) (AE (Kv body s) body s (v::rest) e) M0 w:=by
 intro l J Jx W hkW hl1 hl2 hJ hJx hR hJ0;have hS:=hS0 _ hB.kept;have hvo:F1 v:=by rw[<-hv];exact hS.ok _ (eo _)
 have hB1:=hB.grow hkW;have HFa:j9 (∀wz,Ac [] W wz->Calls prog 177 #[j3 (V ⟨sp,0,Y⟩),jH (j2 (Ai (Bv e)))] wz λr w'=>r=j4 (.bool (D8 body s e))/\Ac [] wz w'):=λwz hk=>RF (hS0 _ (hB1.kept.trans (hk.mono (by simp)))) he
 have HAl:j9 (∀wz,Ac [] W wz->Calls prog 178 #[j3 (V ⟨sp,0,Y⟩),X .i32 (v.toNat:Int),jH (j2 (Ai (Bv e)))] wz λr w'=>∃(ad:Option Addr) (cp:Nat),r=j4 (U ad (Z ((Kv body s v e).map AA)) cp)/\
   w'.ownsRow wz.heap.size 170 1 (U ad (Z ((Kv body s v e).map AA)) cp) (Z ((Kv body s v e).map AA)) (((Kv body s v e).map AA).flatMap Ah)/\Ac [] wz w'):=λwz hk=>S7 (hS0 _ (hB1.kept.trans (hk.mono (by simp)))) he hvo
 have hc:=Bj (Bv e);have hl26:Z (Ai (Bv e))=26:=by unfold Ai;rw[eL];exact GZ he
 have HL26:=Ab hl26;have HO26:j9 (∀u∈Ai (Bv e),u.oneCell'=jj):=by
  intro u hu;unfold Ai at hu;obtain⟨y,_,rfl⟩:=eH.1 hu;rfl
 have HX:j9 (AE (Kv body s) body s (v::rest) e=if D8 body s e then[] else(Kv body s v e).flatMap λt=>AE (Kv body s) body s rest (e.set (v.toNat-65) t)):=by show _=_;rw[AE]
 have HCa:j9 (∀t∈Kv body s v e,A3 t):=YC hS v e;have HTl:j9 (Z (Kv body s v e)<=10000):=cM hS v e;have HEt:j9 (∀t,A3 t->Da (e.set (v.toNat-65) t)/\Ai (Bv (e.set (v.toNat-65) t))=(Ai (Bv e)).set (v.toNat-65) (O (AA t))):=λt ht=>⟨he.set _ ht,by rw[bS e _ ht];unfold Ai;rw[jE]⟩
 obtain⟨kb,ko,bv,og,ocap,hsb,hog⟩:=YI hS from_ (by omega)
 rw[hv]at hog;have De:j9 (∀wz,Ac [] W wz->jF wz ⟨sp,2,Y⟩=V (U (V ⟨og,0,Y⟩) (Z vs) ocap)/\jF wz ⟨og,from_,Y⟩=V (X .i32 (v.toNat:Int))):=λwz hk=>by
  have h1:=(hsb.kept (hkW.trans hk) (by simp)).cell 2;simp at h1;exact⟨h1,(hkW.trans hk).cellAt hog⟩
 have HIh:=Ab ih;have HRo:=Ab hR;have HJ:=Ab hJ;have HJx:=Ab hJx;have HJ0:=Ab hJ0;have HB:=Ab hB1;have HLl:j9 (w.heap.size<=l/\l<W.heap.size/\Ac [] w W/\Ue w0 M1 sp b1 b2 b3 b4 from_ ze e M0 w):=⟨hl1,hl2,hkW,hB⟩
 have HVo:=Ab hvo;obtain⟨j,hj⟩:∃j:Nat,v.toNat-65=j:=⟨_,rfl⟩;have HVj:j9 ((v.toNat:Int)=(j:Int)+65/\j<26):=by
  obtain⟨h1,h2⟩:=hvo;exact⟨by omega,by omega⟩
 rw[hj]at HX HEt;obtain⟨TH,hTH⟩:∃TH,Kv body s v e=TH:=⟨_,rfl⟩;rw[hTH]at HX HCa HAl HTl;obtain⟨BT,hBT⟩:∃BT:g0->List (List g0),(λt=>AE (Kv body s) body s rest (e.set j t))=BT:=⟨_,rfl⟩;have HBT:j9 (∀t,AE (Kv body s) body s rest (e.set j t)=BT t):=λt=>by rw[<-hBT]
 have HLx:j9 (∀t,∀x∈BT t,Z x=26):=λt x hx=>by
  rw[<-hBT]at hx;exact JV rest _ (by rw[fY];exact he.len) x hx
 rw[hBT]at HX;obtain⟨XS,hXS⟩:∃XS,AE (Kv body s) body s (v::rest) e=XS:=⟨_,rfl⟩;rw[hXS]at HX HRo⊢;obtain⟨F,hF⟩:∃F,D8 body s e=F:=⟨_,rfl⟩;rw[hF]at HX HFa;obtain⟨E,hE⟩:∃E,Ai (Bv e)=E:=⟨_,rfl⟩;have HEe:=Ab hE;have hB2:=hB1.bound;rw[hE]at hc hl26 HL26 HO26 HFa HAl HEt hB2;have hVj:=Aa HVj;rw[hVj.1]at HAl De;have c1:=hB1.s.cell 0;have c3:=hB1.fr.cell 0;have c4:=hB1.ze.cell 0;simp at c1 c3 c4;have HCs:j9 (∀wz,Ac [] W wz->AI wz b2 E 243/\jF wz ⟨b1,0,Y⟩=V (j3 (V ⟨sp,0,Y⟩))/\jF wz ⟨b3,0,Y⟩=V (X .i64 from_)/\jF wz ⟨b4,0,Y⟩=V (X .i64 ze)):=λwz hk=>⟨hB2.kept hk (by simp),hk.cellAt c1,hk.cellAt c3,hk.cellAt c4⟩
 have hne:((from_:Int)==(ze:Int))=false:=by simp;omega
 have hf0:(0:Int)<=(from_:Int):=by omega
 have hf1:(from_:Int)<(Z vs:Int):=by omega
 have hvl:=hS.yC;have hwr:IntKind.i64.wrap ((from_:Int)+1)=(from_:Int)+1:=by rw[ik];omega
 obtain⟨VL,hVL⟩:∃VL,Z vs=VL:=⟨_,rfl⟩;rw[hVL]at hf1 De;have HAp:j9 (∀k∈M0,k<W.heap.size/\k≠b1/\k≠b2/\k≠b3/\k≠b4):=λk hk=>by
  obtain⟨_,h2,h3,h4,h5,h6⟩:=hB1.apart k hk;exact⟨h6,h2,h3,h4,h5⟩
 obtain⟨QQ,hQQ⟩:∃QQ,Mx (bodyPostM Fence.wide 0 prog Tryz.f176 λe W'=>(∃v,e=j4 v)/\((∃M',J XS M' W')\/(∃pre M',Jx pre M' W')))=QQ:=⟨_,rfl⟩;have HQp:j9 (∀c a w,¬QQ (.panic c) a w):=by
  intro c a w h;rw[<-hQQ]at h;exact h
 have HLv:j9 (∀(tmps:Array Value) (ds:List Nat) (wz:j7),D5 W.heap.size ds wz->((∃M',J XS M' wz)\/(∃pre M',Jx pre M' wz))->QQ .ret ⟨tmps,ds.map Fc⟩ wz/\QQ .normal ⟨tmps,ds.map Fc⟩ wz):=by
  intro tmps ds wz hm hp;rw[<-hQQ];have key:LeavesInM Fence.wide 0 prog Tryz.f176 tmps (λe W'=>(∃v,e=j4 v)/\((∃M',J XS M' W')\/(∃pre M',Jx pre M' W'))) (ds.map Fc) .returning wz:=by
   refine D9 ds wz hm (λw' hs=>⟨_,jg rfl _ _ _,⟨_,rfl⟩,?_⟩);rcases hp with⟨M',h⟩|⟨pre,M',h⟩
   .exact j5 ⟨M',hs.own hJ (s:=(XS,M')) hm h⟩
   .exact j6 ⟨pre,M',hs.own hJx (s:=(pre,M')) hm h⟩
  exact⟨key,key⟩
 have HK1:=Ab ((Ac.refl [] W).alloc (.cells #[.func (.yield l) #[] #[]] 279));have HB5:=Ab (AI.new W [.func (.yield l) #[] #[]] 279);show Calls prog 176 #[.func (.yield l) #[] #[],j3 (V ⟨b1,0,Y⟩),j3 (V ⟨b2,0,Y⟩),j3 (V ⟨b3,0,Y⟩),j3 (V ⟨b4,0,Y⟩)] W _;refine FS func176 rfl (Ja ?_);rw[hQQ];clear hQQ hB hB1 hB2 hR hJ hJ0 hJx hXS hE hF c1 c3 c4 hkW hl1 hl2 ih hS hS0 he hv hvo hsb hog hj hTH hBT hVL hVj hto hvl zX;simp only[ntmps176,fU,eF,fb,Nat.reduceAdd,Nat.reduceSub,iK,iL,iY,iR,gd,gO];refine jT (λK1 HKk=>?_);go_wp2;refine HKk _ _ ?_;clear HKk K1;change Code.wp _ _ _ _ (W.alloc (.cells [.func (.yield l) #[] #[]].toArray 279));generalize hw1:W.alloc (.cells [.func (.yield l) #[] #[]].toArray 279)=w1 at HK1 HB5⊢;clear hw1;obtain⟨N,hN⟩:∃N,W.heap.size=N:=⟨_,rfl⟩;have HN:=Ab hN;rw[hN]at HB5⊢;clear hN;obtain⟨q2,q1,q3,q4⟩:=HCs w1 HK1;have HFb:=Ab (HFa w1 HK1);have Hq2:=Ab q2;clear q2;refine jT (λK1 HKk=>?_);go_wp2_with ((with_reducible show wpList _ _ _ ({dst:=_,op:=Op.load 243 _,type:=_,pos:=_,after:=_,guard:=_}::_) _ _);refine Bz (by rfl) 243 _ rfl b2 0 (by rfl) E _ Hq2.range underlying243 rfl (by rw[Aa HL26];exact Tryz.zH) ?_)
 refine HFb.mono ?_;rintro _ w2 ⟨rfl,k2⟩;have HK2:=Ab (HK1.trans k2);have HB52:=Ab (HB5.kept k2 (by simp));have HJ2:j9 (J [] M0 w2):=BI HJ (s:=([],M0)) HJ0 HK2;clear k2 q1 q3 q4 Hq2 HFb HFa HK1 HB5;cases F with
 |true=>
  have HXe:j9 (XS=[]):=by show _=_;rw[Aa HX,eI rfl]
  go_wp2;exact(HLv _ [] w2 ⟨iq,λ_ h=>by simp at h,λ_ h=>by simp at h⟩ (j5 ⟨M0,by rw[Aa HXe];exact HJ2⟩)).1
 |false=>
  have HXe:j9 (XS=TH.flatMap BT):=by show _=_;rw[Aa HX,eE (by simp)]
  clear HX;go_wp2;refine HKk _ _ ?_;clear HKk K1;obtain⟨r2,r1,r3,r4⟩:=HCs w2 HK2;clear r2;refine jT (λK1 HKk=>?_);go_wp2;refine HKk _ _ ?_;clear HKk K1;obtain⟨o1,o2⟩:=De w2 HK2;refine jT (λK1 HKk=>?_)
  .refine CK 7 (λwz=>jF wz ⟨b1,0,Y⟩=V (j3 (V ⟨sp,0,Y⟩))/\jF wz ⟨b3,0,Y⟩=V (X .i64 from_)/\jF wz ⟨sp,2,Y⟩=V (U (V ⟨og,0,Y⟩) VL ocap)/\jF wz ⟨og,from_,Y⟩=V (X .i32 ((j:Int)+65))) (by kernel_rfl) ?_
   have HHS:j9 (jF w2.drew ⟨b1,0,Y⟩=V (j3 (V ⟨sp,0,Y⟩))/\jF w2.drew ⟨b3,0,Y⟩=V (X .i64 from_)/\jF w2.drew ⟨sp,2,Y⟩=V (U (V ⟨og,0,Y⟩) VL ocap)/\jF w2.drew ⟨og,from_,Y⟩=V (X .i32 ((j:Int)+65))):=⟨r1,r3,o1,o2⟩
   refine CI.tk (i:=0) (v:=j3 (V ⟨sp,0,Y⟩)) rfl (by kernel_rfl) (Bo HQp) HHS (by rfl) ?_ ?_
   ·(rintro wz ⟨z0,z1,z2,z3⟩;go_simp)
   simp only[jO,ee,ej,el];refine CI.tk (i:=1) (v:=j3 (V ⟨sp,0,Y⟩)) rfl (by kernel_rfl) (Bo HQp) HHS (by rfl) ?_ ?_
   ·(rintro wz ⟨z0,z1,z2,z3⟩;go_simp)
   simp only[jO,ee,ej,el];refine CI.tk (i:=2) (v:=j3 (V ⟨sp,2,Y⟩)) rfl (by kernel_rfl) (Bo HQp) HHS (by rfl) ?_ ?_
   ·(rintro wz ⟨z0,z1,z2,z3⟩;go_simp)
   simp only[jO,ee,ej,el];refine CI.tk (i:=3) (v:=U (V ⟨og,0,Y⟩) VL ocap) rfl (by kernel_rfl) (Bo HQp) HHS (by rfl) ?_ ?_
   ·(rintro wz ⟨z0,z1,z2,z3⟩;go_simp)
   simp only[jO,ee,ej,el];refine CI.tk (i:=4) (v:=X .i64 from_) rfl (by kernel_rfl) (Bo HQp) HHS (by rfl) ?_ ?_
   ·(rintro wz ⟨z0,z1,z2,z3⟩;go_simp)
   simp only[jO,ee,ej,el];refine CI.tk (i:=5) (v:=j3 (V ⟨og,from_,Y⟩)) rfl (by kernel_rfl) (Bo HQp) HHS (by rfl) ?_ ?_
   ·(rintro wz ⟨z0,z1,z2,z3⟩;go_simp)
   simp only[jO,ee,ej,el];refine CI.tk (i:=6) (v:=X .i32 ((j:Int)+65)) rfl (by kernel_rfl) (Bo HQp) HHS (by rfl) ?_ ?_
   ·(rintro wz ⟨z0,z1,z2,z3⟩;go_simp)
   simp only[jO,ee,ej,el];refine CI.one (i:=7) (by kernel_rfl) rfl (λK hK=>?_)
   go_simp
   refine hK.out _ _ (λh=>absurd rfl h) ?_;clear hK K;refine CI.done (by kernel_rfl) ?_ _
   try simp only[jO,ee,ej,el]
   refine HKk _ _ ?_;clear HKk K1 HHS r1 r3 r4 o1 o2;have HK3:=Ab (HK2.drew);have HJ3:j9 (J [] M0 w2.drew):=BI HJ (s:=([],M0)) HJ2 (Ac.refl [] w2).drew;have HB53:=Ab (HB52.drew);generalize w2.drew=w2d at HK3 HJ3 HB53⊢;clear HK2 HJ2 HB52;obtain⟨r2,r1,r3,r4⟩:=HCs w2d HK3;have Hr2:=Ab r2;have HAb:=Ab (HAl w2d HK3);clear r2 HAl;go_wp2_with ((with_reducible show wpList _ _ _ ({dst:=_,op:=Op.load 243 _,type:=_,pos:=_,after:=_,guard:=_}::_) _ _);refine Bz (by rfl) 243 _ rfl b2 0 (by rfl) E _ Hr2.range underlying243 rfl (by rw[Aa HL26];exact Tryz.zH) ?_)
   refine HAb.mono ?_;rintro _ w3 ⟨ad,cp,rfl,hrow,k3⟩;have HK4:=Ab (HK3.trans k3);have HJ4:j9 (J [] M0 w3):=BI HJ (s:=([],M0)) HJ3 k3;have HB54:=Ab (HB53.kept k3 (by simp));have HRow:=Ab (Am hrow (show W.heap.size<=w2d.heap.size from HK3.size))
   obtain⟨L,hL⟩:∃L,Z (TH.map AA)=L:=⟨_,rfl⟩;(have HL:j9 (Z TH=L):=by show _=_;rw[<-hL,eL]);rw[hL]at HRow⊢;clear hrow k3 hL HAb HK3 HJ3 HB53 r1 r3 r4 Hr2;have HOw:j9 (∀wz,Ac M0 w3 wz->AI wz b2 E 243/\AI wz b1 [j3 (V ⟨sp,0,Y⟩)] 233/\AI wz b3 [X .i64 from_] 3/\AI wz b4 [X .i64 ze] 3/\AI wz N [.func (.yield l) #[] #[]] 279/\wz.ownsRow N 170 1 (U ad L cp) L ((TH.map AA).flatMap Ah)):=by
    intro wz hk;have hb:=HB.grow HK4;have hb2:=hb.bound;rw[Aa HEe]at hb2;have hap:=Aa HAp;have hn:=Aa HN;refine⟨hb2.kept hk (λh=>(hap _ h).2.2.1 rfl),hb.s.kept hk (λh=>(hap _ h).2.1 rfl),hb.fr.kept hk (λh=>(hap _ h).2.2.2.1 rfl),hb.ze.kept hk (λh=>(hap _ h).2.2.2.2 rfl),HB54.kept hk (λh=>by have:=(hap _ h).1;omega),?_⟩;have hr:=Aa HRow;rw[hn]at hr;exact Al hr hk (λi hi hm=>by have h1:=(hr.lt i hi).1;have h2:=(hap i hm).1;omega)
   (go_wp2_with fail);refine wp_loop_ghost_k (λgk a wr=>∃(k:Nat) (M ds:List Nat) (y7 y8 y9 y10 y11 y12 y13 y14 y15 y16 y17 y18 y19 y20 y21 y22 y23 y24 y25 y26 y27 y28 y32 y33 y34 y35 y36 y37 y38 y39 y40 y41 y42 y43 y44 y45 y46 y47 y48 y49:Value),a=⟨#[.func (.yield l) #[] #[],j3 (V ⟨b1,0,Y⟩),j3 (V ⟨b2,0,Y⟩),j3 (V ⟨b3,0,Y⟩),j3 (V ⟨b4,0,Y⟩),j3 (V ⟨N,0,Y⟩),X .i32 ((j:Int)+65),y7,y8,y9,y10,y11,y12,y13,y14,y15,y16,y17,y18,y19,y20,y21,y22,y23,y24,y25,y26,y27,y28,U ad L cp,X .i64 L,X .i64 k,y32,y33,y34,y35,y36,y37,y38,y39,y40,y41,y42,y43,y44,y45,y46,y47,y48,y49],ds.map Fc⟩/\k<=L/\gk=L-k/\j9 (J ((TH.take k).flatMap BT) M wr)/\j9 (Zf M0 w3 M wr)/\j9 (D5 N ds wr/\∀D∈ds,D∉M)) L ?start ?round
   case start=>
    refine⟨0,M0,[],_,_,_,_,_,_,_,_,_,_,_,_,_,_,_,_,_,_,_,_,_,_,_,_,_,_,_,_,_,_,_,_,_,_,_,_,_,_,_,_,rfl,by omega,rfl,by rw[iJ];exact HJ4,⟨Ac.refl _ _,λq hq=>⟨j5 hq,?_⟩⟩,⟨⟨iq,λ_ h=>by simp at h,λ_ h=>by simp at h⟩,λ_ h=>by simp at h⟩⟩;have h1:=(HAp q hq).1;have h2:=HK4.size;omega
   case round=>
    rintro gk a wr ⟨k,M,ds,y7,y8,y9,y10,y11,y12,y13,y14,y15,y16,y17,y18,y19,y20,y21,y22,y23,y24,y25,y26,y27,y28,y32,y33,y34,y35,y36,y37,y38,y39,y40,y41,y42,y43,y44,y45,y46,y47,y48,y49,rfl,hk,hgk,HJk,HOk,HMk⟩ JJ KK hJJ hKK;have HG:=Ab hgk;have HJJ:=Ab hJJ;have HKK:=Ab hKK;clear hgk hJJ hKK HJ4;by_cases hkl:k<L
    .obtain⟨s2,s1,s3,s4,s5,s6⟩:=HOw wr HOk.kept;(have hTk:k<Z TH:=by have:=Aa HL;omega);obtain⟨g,cap,hsl,hcell⟩:=FM (l:=TH.map AA) (by rw[eL,Aa HL];exact s6) k (by rw[eL];exact hTk);rw[eL,Aa HL]at hsl;simp only[ei]at hsl;obtain⟨rfl,-,rfl⟩:=hsl;rw[List.getElem_map]at hcell;obtain⟨t,ht⟩:∃t,TH[k]=t:=⟨_,rfl⟩;rw[ht]at hcell;(have htc:A3 t:=by rw[<-ht];exact HCa _ (eo hTk));obtain⟨het,hEt⟩:=HEt t htc;(have HXk:j9 (XS=(TH.take k).flatMap BT++(BT t++(TH.drop (k+1)).flatMap BT)):=by show _=_;rw[Aa HXe,Z5 BT TH k hTk,ht]);(have HTk:j9 ((TH.take (k+1)).flatMap BT=(TH.take k).flatMap BT++BT t):=by show _=_;rw[VQ BT TH k hTk,ht]);have HEt2:=Ab hEt;have HeT:=Ab het;(have hr0:(0:Int)<=(k:Int):=by omega);(have hr1:(k:Int)<(L:Int):=by omega);have hs2:=Ab s2;have c1:=s1.cell 0;have c3:=s3.cell 0;have c4:=s4.cell 0;simp at c1 c3 c4;have HS2:j9 (∀wz,Ac [] wr wz->wz.rangeAt b2 0 E/\Ac [] wr wz/\jF wz ⟨b1,0,Y⟩=V (j3 (V ⟨sp,0,Y⟩))/\jF wz ⟨b3,0,Y⟩=V (X .i64 from_)/\jF wz ⟨b4,0,Y⟩=V (X .i64 ze)):=λwz hk=>⟨(s2.kept hk (by simp)).range,hk,hk.cellAt c1,hk.cellAt c3,hk.cellAt c4⟩
     (have HWi:j9 (∀wz,Calls prog 179 #[jH (j2 E),X .i32 ((j:Int)+65),O (AA t)] wz λr w'=>r=j4 (jH (j2 (E.set j (O (AA t)))))/\Ac [] wz w'):=λwz=>XY E j (AA t) wz hl26 HVj.2 hc HO26);have HBw:j9 (∀wz,Calls prog 141 #[j3 (V ⟨sp,0,Y⟩),X .i64 ((from_:Int)+1),X .i64 ze,jH (j2 (E.set j (O (AA t))))] wz λr w'=>∃b1 b2 b3 b4,r=j4 (.func (.func 176) #[] #[j3 (V ⟨b1,0,Y⟩),j3 (V ⟨b2,0,Y⟩),j3 (V ⟨b3,0,Y⟩),j3 (V ⟨b4,0,Y⟩)])/\
       AI w' b1 [j3 (V ⟨sp,0,Y⟩)] 233/\AI w' b2 (E.set j (O (AA t))) 243/\AI w' b3 [X .i64 ((from_+1:Nat):Int)] 3/\AI w' b4 [X .i64 ze] 3/\(wz.heap.size<=b1/\wz.heap.size<=b2/\wz.heap.size<=b3/\wz.heap.size<=b4)/\Ac [] wz w'):=λwz=>by
      have h:=JP sp (from_+1) ze (Ai (Bv (e.set j t))) wz (Bj _) (by unfold Ai;rw[eL];exact GZ het);rw[hEt]at h;rw[show((from_:Int)+1)=((from_+1:Nat):Int) by omega];exact h
     clear ht htc het hEt s1 s3 s4 s5 s6 s2 c1 c3 c4;generalize AA t=tb at hcell HWi HBw HEt2;refine jT (λK1 HKk=>?_);go_wp2;refine HKk _ _ ?_;clear HKk K1;refine jT (λK1 HKk=>?_);go_wp2;refine HKk _ _ ?_;clear HKk K1;refine jT (λK5 HK5=>?_);refine wp_block ?_;refine jT (λK1 HKk=>?_);go_wp2;refine HKk _ _ ?_;clear HKk K1 hcell;refine jT (λK6 HK6=>?_);refine CK 9 (λwz=>wz.rangeAt b2 0 E/\Ac [] wr wz/\jF wz ⟨b1,0,Y⟩=V (j3 (V ⟨sp,0,Y⟩))/\jF wz ⟨b3,0,Y⟩=V (X .i64 from_)/\jF wz ⟨b4,0,Y⟩=V (X .i64 ze)) (by kernel_rfl) ?_
     have HHS:=Ab (HS2 wr.drew (Ac.refl [] wr).drew);refine CI.tkH (i:=0) (v:=j3 (V ⟨sp,0,Y⟩)) rfl (by kernel_rfl) (Bo HQp) HHS (by rfl) ?_ ?_
     ·(rintro wz ⟨z0,z1,z2,z3,z4⟩;go_simp)
     simp only[jO,ee,ej,el];refine CI.tkH (i:=1) (v:=X .i64 from_) rfl (by kernel_rfl) (Bo HQp) HHS (by rfl) ?_ ?_
     ·(rintro wz ⟨z0,z1,z2,z3,z4⟩;go_simp)
     simp only[jO,ee,ej,el];refine CI.tkH (i:=2) (v:=X .i64 ((from_:Int)+1)) rfl (by kernel_rfl) (Bo HQp) HHS (by rfl) ?_ ?_
     ·(rintro wz ⟨z0,z1,z2,z3,z4⟩;go_simp)
     simp only[jO,ee,ej,el];refine CI.tkH (i:=3) (v:=X .i64 ze) rfl (by kernel_rfl) (Bo HQp) HHS (by rfl) ?_ ?_
     ·(rintro wz ⟨z0,z1,z2,z3,z4⟩;go_simp)
     simp only[jO,ee,ej,el];refine CI.yE (i:=4) (v:=jH (j2 E)) rfl (by kernel_rfl) (by kernel_rfl) (by kernel_rfl) (by decide) (λ_ _ _ h=>absurd h (HQp _ _ _)) HHS (yieldsIf_load_mid (by rfl) 243 _ rfl b2 0 (by rfl) E _ (λwz hz=>hz.1) underlying243 rfl (by rw[Aa HL26];exact Tryz.zH)) ?_;simp only[jO,ee,ej,el];refine CI.tkH (i:=5) (v:=X .i32 ((j:Int)+65)) rfl (by kernel_rfl) (Bo HQp) HHS (by rfl) ?_ ?_
     ·(rintro wz ⟨z0,z1,z2,z3,z4⟩;go_simp)
     simp only[jO,ee,ej,el];refine CI.tkH (i:=6) (v:=O tb) rfl (by kernel_rfl) (Bo HQp) HHS (by rfl) ?_ ?_
     ·(rintro wz ⟨z0,z1,z2,z3,z4⟩;go_simp)
     simp only[jO,ee,ej,el];refine CI.one (i:=7) (by kernel_rfl) rfl (λK hK=>?_)
     go_simp
     refine(HWi _).mono ?_;rintro _ w4 ⟨rfl,k4⟩;have hk4:Ac [] wr w4:=(Ac.refl [] wr).drew.trans k4;refine hK.out _ _ (λ_=>HS2 w4 hk4) ?_;clear hK K;have HK4':=Ab hk4;clear k4 hk4
     try simp only[jO,ee,ej,el]
     refine CI.one (i:=8) (by kernel_rfl) rfl (λK hK=>?_)
     go_simp
     refine(HBw _).mono ?_;rintro _ w5 ⟨d1,d2,d3,d4,rfl,n1,n2,n3,n4,hds,k5⟩;have hk5:Ac [] wr w5:=HK4'.trans k5;refine hK.out _ _ (λ_=>HS2 w5 hk5) ?_;clear hK K;refine CI.done (by kernel_rfl) ?_ _
     try simp only[jO,ee,ej,el]
     refine HK6 _ _ ?_;clear HK6 K6 HHS HWi HBw HS2;(have hMw:∀q∈M,q<wr.heap.size:=λq hq=>(HOk.mem q hq).2);have hl5:=Aa HLl;have hsz5:=k5.size;have hsz4:=HK4'.size;have hszr:=HOk.kept.size;have hszw:=HK4.size;have hbt:Ue w0 M1 sp d1 d2 d3 d4 (from_+1) ze (e.set j t) (l::M) w5:=by
      refine⟨?_,n1,by rw[Aa HEt2];exact n2,n3,n4,λq hq=>?_⟩
      .exact(HB.kept.trans (HK4.mono (by simp))).trans' (HOk.kept.trans (hk5.mono (by simp))) (λi hi=>(HB.apart i hi).1)
      .have hq2:(q∈M1\/w0.heap.size<=q)/\q<wr.heap.size:=by
        have h0:=HB.kept.size;rcases ey.1 hq with rfl|hq
        .have h1:=hl5.2.2.2.kept.size;exact⟨j6 (by omega),by omega⟩
        .refine⟨?_,hMw q hq⟩;rcases(HOk.mem q hq).1 with h|h
         .exact(HB.apart q h).1
         .exact j6 (by omega)
       obtain⟨g1,g2,g3,g4⟩:=hds;exact⟨hq2.1,by omega,by omega,by omega,by omega,by omega⟩
     have zm:=Aa HIh (e.set j t) d1 d2 d3 d4 w5 (l::M) HeT hbt;rw[Aa HBT t]at zm;have hJ5:J ((TH.take k).flatMap BT) M w5:=BI HJ (s:=((TH.take k).flatMap BT,M)) HJk hk5;have HO5:j9 (Zf M0 w3 M w5):=HOk.step (hk5.mono (by simp)) (λq hq=>⟨j5 hq,by have:=hMw q hq;omega⟩);have HM5:j9 (D5 N ds w5/\∀D∈ds,D∉M):=⟨Lc HMk.1 hk5 (λ_ _ h=>by simp at h),HMk.2⟩;(have hB5s:W.heap.size<=w5.heap.size:=by omega);refine wp_block ?_;refine Km (T:=243) (q:=9) rfl (enters_of func176 (by kernel_rfl) rfl) zm (λq hq=>by
      rcases ey.1 hq with rfl|hq
      .omega
      .have:=hMw q hq;omega) (aY J l ((TH.take k).flatMap BT) M w5) (λc _ _ W'=>be Jx l M w5 c W') (aY.own HJ hB5s) (λc=>be.own HJx hB5s c) ⟨M,rfl,by rw[fh];exact hJ5,Ac.refl _ _,λq hq=>⟨j5 hq,by have:=hMw q hq;omega⟩⟩ ?rassign ?rbody ?rdone ?rstop
     case rassign=>
      intro l' x W' K hx HK;(have hxl:Z (Ai (Bv x))=26:=by unfold Ai Bv;rw[eL,eL];exact HLx t x hx);have HXo:j9 (∀u∈Ai (Bv x),u.oneCell'=jj):=by
       intro u hu;unfold Ai at hu;obtain⟨y,_,rfl⟩:=eH.1 hu;rfl
      obtain⟨EX,hEX⟩:∃EX,Ai (Bv x)=EX:=⟨_,rfl⟩;rw[hEX]at hxl HXo HK⊢;have HXl:=Ab hxl;(have HXa:j9 (EX.toArray.size=26):=by show _=_;simp[hxl]);clear hx hEX hxl;simp only[ee,ej,el]at HK⊢;refine Bi (by rfl) (J5 Ih) ?_;go_wp2_with ((with_reducible show wpList _ _ _ ({dst:=_,op:=Op.store 243 _ _,type:=_,pos:=_,after:=_,guard:=_}::_) _ _);refine gQ rfl 243 _ _ rfl W'.heap.size 0 (j2 EX) (by rfl) (by rfl) ?_ ?_ ?_ ?_)
      .have h:=(AI.new W' (jL 26 (O ⟨#[]⟩)) 243).there;simp only[gM]at h;rw[Aa HXa];exact h
      .rw[Aa HXa];exact Tryz.zH
      .exact fX HXo
      .refine HK _ (((Ac.refl [] W').alloc (.cells (j2 (jL 26 (O ⟨#[]⟩))) 243)).zI (b:=W'.heap.size) (j6 (eM _)) EX 0) ?_;exact(AI.new W' (jL 26 (O ⟨#[]⟩)) 243).zQ EX (by rw[Aa HXl];simp)
     case rbody=>
      intro l' Bx pre x rest' M' W' hxs hi hM' hBx hblk;obtain⟨Mo,rfl,hj6,ho6⟩:=hi.at_;have hyB:AI W' N [.func (.yield l) #[] #[]] 279:=by
       have h5:=(HOw w5 HO5.kept).2.2.2.2.1;refine h5.kept ho6.kept (λh=>?_);rcases(HOk.mem N h).1 with h|h
       .have:=(HAp N h).1;have:=Aa HN;omega
       .have h7:=HB54.lt;omega
      have HY:=Ab (HRo ((TH.take k).flatMap BT++pre) x (rest'++(TH.drop (k+1)).flatMap BT) Mo W' (by rw[Aa HXk,hxs];simp) hj6);have cy:=hyB.cell 0;simp at cy;(have hxl:Z (Ai (Bv x))=26:=by unfold Ai Bv;rw[eL,eL];exact HLx t x (by rw[hxs];simp));obtain⟨EX,hEX⟩:∃EX,Ai (Bv x)=EX:=⟨_,rfl⟩;simp only[hEX]at hxl hblk HY⊢;have HBl:=Ab hblk;have HXl:=Ab hxl;have HO6:=Ab ho6;clear hi hblk hxl hyB hj6 ho6 hM' hEX hxs;simp only[ee,ej,el];refine wpIn_block ?_;refine ia (λK3 hK3=>?_);have HK3':=Ab hK3;clear hK3;refine Ok (n:=0) 2 (by rfl) (by rintro ⟨_,_,h⟩;exact h) (λK2 HK2'=>?_);simp only[ip,iJ];go_wp2_with ((with_reducible show wpList _ _ _ ({dst:=_,op:=Op.load 243 _,type:=_,pos:=_,after:=_,guard:=_}::_) _ _);refine Bz (by rfl) 243 _ rfl Bx 0 (by rfl) EX _ HBl.range underlying243 rfl (by rw[Aa HXl];exact Tryz.zH) ?_)
      refine HK2' _ _ ?_;clear HK2' K2;simp only[iC,i8];refine I1 (F:=Fence.wide.inRound l') (λ_=>trivial) rfl rfl (l:=l) (args:=#[jH (j2 EX)]) (by rfl) (by first|(simp[go_sem,Oper.semAt];done)|(simp[go_sem,Oper.semAt,execOp,resolve,invoke];done)) HY ?_;rintro r w6 (⟨rfl,M6,hj6,hk6,hM6⟩|⟨rfl,M6,hj6,hk6⟩)
      .refine⟨_,rfl,JD (by rfl) (by rintro ⟨_,_,h⟩;exact h) ?_⟩;simp only[jO,ee,ej,el];have HP:j9 (O3 (aY J l ((TH.take k).flatMap BT) M w5) (λc _ _ W'=>be Jx l M w5 c W') (pre++[x]) (l::Mo) W' .normal ⟨#[],[]⟩ w6):=by
        (have hll:l<w6.heap.size:=by have:=hk6.size;have:=HO6.kept.size;omega);refine⟨hk6.mono (λi hi=>fu _ hi),l::M6,⟨M6,rfl,by rw[<-fD];exact hj6,HO6.step hk6 hM6⟩,λq hq=>?_⟩;rcases ey.1 hq with rfl|hq
        .exact⟨j5 (fI ..),hll⟩
        .refine⟨?_,(hM6 q hq).2⟩;rcases(hM6 q hq).1 with h|h
         .exact j5 (fu _ h)
         .exact j6 h
       clear hj6 hk6 hM6 HY;go_wp2;refine HK3' _ _ ?_;clear HK3' K3;refine iW rfl (wpIn_skip ?_);exact HP
      .refine⟨_,rfl,JD (by rfl) (by rintro ⟨_,_,h⟩;exact h) ?_⟩;simp only[jO,ee,ej,el];have HP:j9 (O3 (aY J l ((TH.take k).flatMap BT) M w5) (λc _ _ W'=>be Jx l M w5 c W') (pre++[x]) (l::Mo) W' .ret ⟨#[],[]⟩ w6):=by
        refine⟨hk6,M6,rfl,⟨_,M6,hj6⟩,?_⟩;refine(HO6.kept.mono (N:=l::M) (λi hi=>fu _ hi)).trans' hk6 (λi hi=>?_);rcases ey.1 hi with rfl|hi
        .exact j5 (fI ..)
        .exact((HO6.mem i hi).1).imp (λh=>fu _ h) id
       clear hj6 hk6 HY;go_wp2;refine HK3' _ _ ?_;clear HK3' K3;refine i9 rfl (wpIn_ret ?_);exact HP
     case rdone=>
      intro D M' W' hD hi hd hDM;obtain⟨Mo,rfl,hj6,ho6⟩:=hi.at_;have HO6:j9 (Zf M0 w3 Mo W'):=HO5.step ho6.kept ho6.mem;(have hDl:=λq (hq:q∈Mo)=>(ho6.mem q hq).1);have HM6:j9 (D5 N (D::ds) W'/\∀d∈D::ds,d∉Mo):=by
       have hm:=Lc HM5.1 ho6.kept HM5.2;have zX:=TZ HM5.1;refine⟨⟨gX.2 ⟨λh=>by have:=zX D h;omega,hm.nodup⟩,λd hd'=>?_,λd hd'=>?_⟩,λd hd' hm'=>?_⟩
       .rcases ey.1 hd' with rfl|hd'
        .have:=Aa HN;omega
        .exact hm.ge d hd'
       .rcases ey.1 hd' with rfl|hd'
        .exact hd
        .exact hm.at_ d hd'
       .rcases ey.1 hd' with rfl|hd'
        .exact hDM _ (fu _ hm') rfl
        .rcases(ho6.mem d hm').1 with h|h
         .exact HM5.2 d hd' h
         .have:=zX d hd';omega
      (have HJ6:j9 (J ((TH.take (k+1)).flatMap BT) Mo W'):=by rw[Aa HTk];exact hj6);clear hi hj6 ho6 hDl;refine HK5 _ _ ?_;clear HK5;go_wp2;refine HKK _ _ (Handed.intro (L-(k+1)) (by have:=Aa HG;omega) (HJJ _ _ _ ?_));have hcast:wrap64 ((k:Int)+1)=((k+1:Nat):Int):=bH k (by have:=Aa HTl;have:=Aa HL;omega);rw[hcast];exact⟨k+1,Mo,D::ds,_,_,_,_,_,_,_,_,_,_,_,_,_,_,_,_,_,_,_,_,_,_,_,_,_,_,_,_,_,_,_,_,_,_,_,_,_,_,_,_,rfl,hkl,rfl,HJ6,HO6,HM6⟩
     case rstop=>
      intro D c pre M' W' hD hx hd;obtain rfl:=hx.ret;obtain⟨pre',Mo,hjx⟩:=hx.at_;have zX:=TZ HM5.1;have hm:D5 W.heap.size (D::ds) W':=by
       have hm:=Lc HM5.1 hx.kept (λd hd' h=>by
        rcases ey.1 h with rfl|h
        .have:=HM5.1.ge _ hd';have:=Aa HN;omega
        .exact HM5.2 d hd' h)
       refine⟨gX.2 ⟨λh=>by have:=zX D h;omega,hm.nodup⟩,λd hd'=>?_,λd hd'=>?_⟩
       .rcases ey.1 hd' with rfl|hd'
        .omega
        .have:=hm.ge d hd';have:=Aa HN;omega
       .rcases ey.1 hd' with rfl|hd'
        .exact hd
        .exact hm.at_ d hd'
      refine wp_ret ?_;exact(HLv _ (D::ds) W' hm (j6 ⟨pre',Mo,hjx⟩)).1
    ·(have hr1:¬(k:Int)<(L:Int):=by omega);have HJe:j9 (J XS M wr):=by
      have h:=Aa HJk;rw[eu (by have:=Aa HL;omega),<-Aa HXe]at h;exact h
     go_wp2;exact(HLv _ ds wr (by rw[Aa HN];exact HMk.1) (j5 ⟨M,HJe⟩)).2
