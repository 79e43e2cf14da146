import Derived.Test.YtoihbhenbmffcaaGreatDoorYBH
set_option linter.all false
set_option maxHeartbeats 0
open List renaming length->Z,toArray->j3,replicate->lV
open Option renaming none->Y,some->V
open Go.Value renaming slice->U,int->X,string->O,pointer->kt,agg->lR
open Bool renaming true->j1
open Go.Ending renaming returned->lo
open Or renaming inl->lx,inr->ly
open Go renaming World->l9
open Go.RowKit renaming Hid->lO
open Go.World renaming cell?->lP
open Go.Act renaming put->lY
namespace Go.Proofs.YtoihbhenbmffcaaGreatDoor
open Go.RowKit Go.Proofs.Tryz
def bG{α β:Type}(f:α->mc β)(l:mc α)(k:Nat)(a:k<Z l):l.flatMap f=(l.take k).flatMap f++(f l[k]++(l.drop (k+1)).flatMap f):=by
 conv=>lhs;rw[<-iZ k l,ix,ij a,il]
def WT{α β:Type}(f:α->mc β)(l:mc α)(k:Nat)(a:k<Z l):(l.take (k+1)).flatMap f=(l.take k).flatMap f++f l[k]:=by
 rw[gQ a,ix];simp
def dG{a:mc Bi}{s:mc Af}(m:∀f∈s,AJ f)(j:XI s a)(v:UInt8)(e:mc zA):Z (Im a s v e)<=Z s:=by
 have g:=ER a s v e;cases hl:CA a s v e with
 |nil=>
  cases ha:Im a s v e with
  |nil=>simp
  |cons t l=>
   have h:=(g t).1 (by rw[ha];simp);exact absurd hl h.1
 |cons l ls=>
  have c:l∈CA a s v e:=by rw[hl];simp
  have n:Z l<=Z s:=by
   unfold CA at c;obtain⟨x,p,b⟩:=jy.1 c;by_cases d:(x.kind==97)=j1
   .rw[gY d,kF]at b;obtain⟨i,o,rfl⟩:=b;unfold Gj;rw[ie];exact jn _ _
   .rw[gV d]at b;cases b
  have:=Mj (Im a s v e) l (R1 m j v e) (λt k=>((g t).1 k).2 l c);omega
def ei{w:l9}{b:Nat}{a:mc Bi}{s:mc Af}{c:mc UInt8}(h:aQ w b a s c)(v:UInt8)(e:mc zA):Z (Im a s v e)<=10000:=by
 obtain⟨t,n,u,m,k,o,f,r,j,p,l,g,q,i,d⟩:=h.at_;have:=dG d.canon h.fit v e;have:=h.len;omega
section
variable {P:Program} {ops:Array Oper} {Q:Exit->Act->l9->Prop} {md:Region.Mode} {S:l9->Prop} {k:Nat}
def Cx.firstH{i:Nat}{n:Oper}{v:Value}(A:ops[i]?=V n)(G:∀(j:Nat) (o:Oper) p b,ops[j]?=V o->o.op≠ .select p b)
  (T:∀c a w,Q (.panic c) (a.put n.dst v) w->Q (.panic c) a w) (hW:ops.size<=k):
  ∀(r:Nat) (f:Array Bool) (a:Act) (w:l9),
   (∀j m,ops[j]?=V m->j≠i->f.getD j j1=false->(∀e∈m.after,Region.binds md e=j1->e.on≠i)->n.apart ops m=j1)->
   i∈Region.ready md ops f->YieldsIf P ops S n v a->S w->
   Cx P md ops Q S k r (f.setIfInBounds i j1) (a.put n.dst v) w->Cx P md ops Q S k (r+1) f a w:=by
 intro r
 induction r with
 |zero=>
  intro f a w _ l u t H;refine⟨λh=>(by rw[h]at l;cases l),λj s=>?_⟩;by_cases d:j=i
  .subst d;exact u.wpOp A t ⟨λ_=>t,H⟩
  .have:=li s d;rw[H.1]at this;cases this
 |succ r ih=>
  intro f a w D l u t H;have F:=(mem_ready.1 l).1;refine⟨λh=>(by rw[h]at l;cases l),λj s=>?_⟩;by_cases d:j=i
  .subst d;exact u.wpOp A t ⟨λ_=>t,H⟩
  .have C:j≠k:=λe=>by
    obtain⟨_,o,ho,_⟩:=mem_ready.1 s;have:=(iK.1 ho).1;omega
   have h1:=H.2 j (li s d);obtain⟨B,m,y,A2⟩:=mem_ready.1 s;have Ax:∀e∈m.after,Region.binds md e=j1->e.on≠i:=λe he N R=>by
    have g:=A2 e he N;rw[R]at g;rcases Nat.lt_or_ge i f.size with z|z
    .simp[z]at F g;rw[F]at g;cases g
    .simp[kE z]at g
   have g:=wpOp_putIf y (D j m y d B Ax) (λp b=>G i n p b A) (λp b=>G j m p b y) T u h1;refine wpOp_mono (λa' M x=>⟨λ_=>x.2.1 C,ih (f.setIfInBounds j j1) a' M (λq oq W A1 I L=>D q oq W A1 ?_ L) (li l (Ne.symm d)) x.1 (x.2.1 C) ?_⟩) g
   .by_cases E:j=q
    .subst E;exact B
    .rw[getD_set_ne j1 E]at I;exact I
   .rw[lj _ _ d];exact x.2.2
def Cx.yG{i:Nat}{d:Oper}{v:Value}{fuel:Nat}{b:Array Bool}{a:Act}{w:l9}(e:ops[i]?=V d)
  (n:Region.noSelect ops=j1) (f:Region.free md ops b i=j1) (m:(Region.ready md ops b).contains i=j1) (g:ops.size<=k)
  (o:∀c a w,Q (.panic c) (a.put d.dst v) w->Q (.panic c) a w) (l:S w) (j:YieldsIf P ops S d v a)
  (h:Cx P md ops Q S k fuel (b.setIfInBounds i j1) (a.put d.dst v) w):Cx P md ops Q S k (fuel+1) b a w:=
 Cx.firstH e (Region.noSelect_spec n) o g fuel b a w (Region.free_spec e f) (by simpa using m) j l h
def Cx.tkH{i:Nat}{d:Oper}{v:Value}{fuel:Nat}{e:Array Bool}{a:Act}{w:l9}(m:ops[i]?=V d)(b:fY md ops e i (decide (ops.size<=k))=j1)
  (l:∀c a w,Q (.panic c) (a.put d.dst v) w->Q (.panic c) a w) (j:lO (S w)) (f:Region.wanted d (yielded ops a.tmps)=j1) (g:∀w,S w->(execOp a.eval d).run P w=.ok (.value v) w)
  (h:Cx P md ops Q S k fuel (e.setIfInBounds i j1) (a.put d.dst v) w):Cx P md ops Q S k (fuel+1) e a w:=by
 unfold fY at b;simp only[iq,kw]at b;exact Cx.yG m b.1.1.1 b.1.1.2 b.1.2 b.2 l j (lx ⟨f,g⟩) h
end
def dp(k:Nat)(h:k<=1000000):wrap64 ((k:Int)+1)=((k+1:Nat):Int):=by
 unfold wrap64;omega
def JD(Q:Exit->Act->l9->Prop):Exit->Act->l9->Prop
 | .panic _,_,_=>False
 | .outgrown,_,_=>False
 |e,a,w=>Q e a w
def FV{P:Program}{c:Code}{Q:Exit->Act->l9->Prop}{a:Act}{w:l9}(h:c.wp P (JD Q) a w):c.wp P Q a w:=wp_mono h (λe a w h=>by
 cases e<;>first|exact h|exact h.elim)
structure Xa(M0:mc Nat)(w3:l9)(M:mc Nat)(w:l9):Prop where
 kept:Ac M0 w3 w
 mem:∀q∈M,(q∈M0\/w3.heap.size<=q)/\q<w.heap.size
def Xa.step{b M f:mc Nat}{d w w':l9}(h:Xa b d M w)(k:Ac M w w')(e:∀q∈f,(q∈M\/w.heap.size<=q)/\q<w'.heap.size):Xa b d f w':=
 ⟨h.kept.trans' k (λi g=>(h.mem i g).1),λq c=>⟨by
  rcases(e q c).1 with a|a
  .exact(h.mem q a).1
  .exact ly (iQ h.kept.size a),(e q c).2⟩⟩
structure Vx(J:mc (mc zA)->mc Nat->l9->Prop)(l:Nat)(P0:mc (mc zA))(M:mc Nat)(w5:l9)(pre:mc (mc zA))(M':mc Nat)(W:l9):Prop where
 at_:∃Mo,M'=l::Mo/\J (P0++pre) Mo W/\Xa M w5 Mo W
structure VG(Jx:mc (mc zA)->mc Nat->l9->Prop)(l:Nat)(M:mc Nat)(w5:l9)(c:Code)(W:l9):Prop where
 ret:c=.ret
 at_:∃pre Mo,Jx pre Mo W
 kept:Ac (l::M) w5 W
def Vx.own{f:mc (mc zA)->mc Nat->l9->Prop}{B l:Nat}{g:mc (mc zA)}{M:mc Nat}{d:l9}(n:OwnFrom B (fun(s:mc (mc zA)×mc Nat) W=>f s.1 s.2 W))(p:B<=d.heap.size):OwnFrom d.heap.size (fun(s:mc (mc zA)×mc Nat) W=>Vx f l g M d s.1 s.2 W):=λs A C k o b a=>by
 obtain⟨i,m,j,c⟩:=o.at_;refine⟨i,m,n (g++s.1,i) A C k j b (λr e=>⟨by have:=(a r e).1;omega,(a r e).2⟩),c.kept.grown b (λr e=>ly (a r e).1),λq h=>⟨(c.mem q h).1,jw (c.mem q h).2 b.size⟩⟩
def VG.own{i:mc (mc zA)->mc Nat->l9->Prop}{B l:Nat}{M:mc Nat}{b:l9}(m:OwnFrom B (fun(s:mc (mc zA)×mc Nat) W=>i s.1 s.2 W))(n:B<=b.heap.size)(c:Code):OwnFrom b.heap.size (fun(s:mc (mc zA)×mc Nat) W=>VG i l M b c W):=λs A C k d g a=>by
 obtain⟨f,h,j⟩:=d.at_;exact⟨d.ret,⟨f,h,m (f,h) A C k j g (λr e=>⟨by have:=(a r e).1;omega,(a r e).2⟩)⟩,d.kept.grown g (λr e=>ly (a r e).1)⟩
def Gd{al:UInt8->mc zA->mc zA}{d:mc Bi}{s:mc Af}:∀(c:mc UInt8) (e:mc zA),Z e=26->∀b∈Av al d s c e,Z b=26
 |[],e,he,b,a=>by
  rw[Av]at a;split at a
  .simp at a
  .rw[gN]at a;rw[a];exact he
 |v::c,e,he,b,a=>by
  rw[Av]at a;split at a
  .simp at a
  .obtain⟨t,_,a⟩:=iI.1 a;exact Gd c _ (by rw[jm];exact he) b a
def Lv{B:Nat}{M:mc Nat}{ds:mc Nat}{w w':l9}(h:C6 B ds w)(k:Ac M w w')(b:∀D∈ds,D∉M):C6 B ds w':=
 ⟨h.nodup,h.ge,λD a=>(k.block D (iK.1 (h.at_ D a)).1 (b D a)).trans (h.at_ D a)⟩
def U4{B:Nat}{ds:mc Nat}{w:l9}(h:C6 B ds w):∀D∈ds,D<w.heap.size:=λD a=>(iK.1 (h.at_ D a)).1
set_option maxRecDepth 100000
theorem S8(sp:Nat)(body:mc Bi)(s:mc Af)(vs:mc UInt8)(w0:l9)(M1:mc Nat)(hS0:∀wz,Ac M1 w0 wz->aQ wz sp body s vs)(v:UInt8)(rest:mc UInt8)(from_ zg:Nat)(e:mc zA)(b1 b2 b3 b4:Nat)(w:l9)(M0:mc Nat)(he:CQ e)
  (zY:from_<zg) (hto:zg<=Z vs) (hv:vs[from_]'(by omega)=v) (hB:Tv w0 M1 sp b1 b2 b3 b4 from_ zg e M0 w)
  (ih:∀(e':mc zA) (c1 c2 c3 c4:Nat) (w':l9) (M:mc Nat),CQ e'->Tv w0 M1 sp c1 c2 c3 c4 (from_+1) zg e' M w'->
   Kq prog 176 #[kt (V ⟨c1,0,Y⟩),kt (V ⟨c2,0,Y⟩),kt (V ⟨c3,0,Y⟩),kt (V ⟨c4,0,Y⟩)] (λx=>#[lR (j3 (Aj (Be x)))]) (Av (Im body s) body s rest e') M w'):
  Kq prog 176 #[kt (V ⟨b1,0,Y⟩),kt (V ⟨b2,0,Y⟩),kt (V ⟨b3,0,Y⟩),kt (V ⟨b4,0,Y⟩)] (λx=>#[lR (j3 (Aj (Be x)))]) (Av (Im body s) body s (v::rest) e) M0 w:=by
 intro l J Jx W hkW hl1 hl2 hJ hJx hR hJ0;have hS:=hS0 _ hB.kept;have hvo:Ed v:=by rw[<-hv];exact hS.ok _ (gL _)
 have hB1:=hB.grow hkW;have HFa:lO (∀wz,Ac [] W wz->Calls prog 177 #[kt (V ⟨sp,0,Y⟩),lR (j3 (Aj (Be e)))] wz λr w'=>r=lo (.bool (DL body s e))/\Ac [] wz w'):=λwz hk=>SC (hS0 _ (hB1.kept.trans (hk.mono (by simp)))) he
 have HAl:lO (∀wz,Ac [] W wz->Calls prog 178 #[kt (V ⟨sp,0,Y⟩),X .i32 (v.toNat:Int),lR (j3 (Aj (Be e)))] wz λr w'=>∃(ad:Option Addr) (cp:Nat),r=lo (U ad (Z ((Im body s v e).map AA)) cp)/\
   w'.ownsRow wz.heap.size 170 1 (U ad (Z ((Im body s v e).map AA)) cp) (Z ((Im body s v e).map AA)) (((Im body s v e).map AA).flatMap Ah)/\Ac [] wz w'):=λwz hk=>Ua (hS0 _ (hB1.kept.trans (hk.mono (by simp)))) he hvo
 have hc:=Bv (Be e);have hl26:Z (Aj (Be e))=26:=by unfold Aj;rw[ie];exact Hb he
 have HL26:=Ab hl26;have HO26:lO (∀u∈Aj (Be e),u.oneCell'=j1):=by
  intro u hu;unfold Aj at hu;obtain⟨y,_,rfl⟩:=gX.1 hu;rfl
 have HX:lO (Av (Im body s) body s (v::rest) e=if DL body s e then[] else(Im body s v e).flatMap λt=>Av (Im body s) body s rest (e.set (v.toNat-65) t)):=by show _=_;rw[Av]
 have HCa:lO (∀t∈Im body s v e,A3 t):=ZG hS v e;have HTl:lO (Z (Im body s v e)<=10000):=ei hS v e;have HEt:lO (∀t,A3 t->CQ (e.set (v.toNat-65) t)/\Aj (Be (e.set (v.toNat-65) t))=(Aj (Be e)).set (v.toNat-65) (O (AA t))):=λt ht=>⟨he.set _ ht,by rw[dA e _ ht];unfold Aj;rw[lL]⟩
 obtain⟨kb,ko,bv,og,ocap,hsb,hog⟩:=ZL hS from_ (by omega)
 rw[hv]at hog;have EU:lO (∀wz,Ac [] W wz->lP wz ⟨sp,2,Y⟩=V (U (V ⟨og,0,Y⟩) (Z vs) ocap)/\lP wz ⟨og,from_,Y⟩=V (X .i32 (v.toNat:Int))):=λwz hk=>by
  have h1:=(hsb.kept (hkW.trans hk) (by simp)).cell 2;simp at h1;exact⟨h1,(hkW.trans hk).cellAt hog⟩
 have HIh:=Ab ih;have HRo:=Ab hR;have HJ:=Ab hJ;have HJx:=Ab hJx;have HJ0:=Ab hJ0;have HB:=Ab hB1;have HLl:lO (w.heap.size<=l/\l<W.heap.size/\Ac [] w W/\Tv w0 M1 sp b1 b2 b3 b4 from_ zg e M0 w):=⟨hl1,hl2,hkW,hB⟩
 have HVo:=Ab hvo;obtain⟨j,hj⟩:∃j:Nat,v.toNat-65=j:=⟨_,rfl⟩;have HVj:lO ((v.toNat:Int)=(j:Int)+65/\j<26):=by
  obtain⟨h1,h2⟩:=hvo;exact⟨by omega,by omega⟩
 rw[hj]at HX HEt;obtain⟨TH,hTH⟩:∃TH,Im body s v e=TH:=⟨_,rfl⟩;rw[hTH]at HX HCa HAl HTl;obtain⟨BT,hBT⟩:∃BT:zA->mc (mc zA),(λt=>Av (Im body s) body s rest (e.set j t))=BT:=⟨_,rfl⟩;have HBT:lO (∀t,Av (Im body s) body s rest (e.set j t)=BT t):=λt=>by rw[<-hBT]
 have HLx:lO (∀t,∀x∈BT t,Z x=26):=λt x hx=>by
  rw[<-hBT]at hx;exact Gd rest _ (by rw[jm];exact he.len) x hx
 rw[hBT]at HX;obtain⟨XS,hXS⟩:∃XS,Av (Im body s) body s (v::rest) e=XS:=⟨_,rfl⟩;rw[hXS]at HX HRo⊢;obtain⟨F,hF⟩:∃F,DL body s e=F:=⟨_,rfl⟩;rw[hF]at HX HFa;obtain⟨E,hE⟩:∃E,Aj (Be e)=E:=⟨_,rfl⟩;have HEe:=Ab hE;have hB2:=hB1.bound;rw[hE]at hc hl26 HL26 HO26 HFa HAl HEt hB2;have hVj:=Aa HVj;rw[hVj.1]at HAl EU;have c1:=hB1.s.cell 0;have c3:=hB1.fr.cell 0;have c4:=hB1.zg.cell 0;simp at c1 c3 c4;have HCs:lO (∀wz,Ac [] W wz->AH wz b2 E 243/\lP wz ⟨b1,0,Y⟩=V (kt (V ⟨sp,0,Y⟩))/\lP wz ⟨b3,0,Y⟩=V (X .i64 from_)/\lP wz ⟨b4,0,Y⟩=V (X .i64 zg)):=λwz hk=>⟨hB2.kept hk (by simp),hk.cellAt c1,hk.cellAt c3,hk.cellAt c4⟩
 have hne:((from_:Int)==(zg:Int))=false:=by simp;omega
 have hf0:(0:Int)<=(from_:Int):=by omega
 have hf1:(from_:Int)<(Z vs:Int):=by omega
 have hvl:=hS.z9;have hwr:IntKind.i64.wrap ((from_:Int)+1)=(from_:Int)+1:=by rw[j7];omega
 obtain⟨VL,hVL⟩:∃VL,Z vs=VL:=⟨_,rfl⟩;rw[hVL]at hf1 EU;have HAp:lO (∀k∈M0,k<W.heap.size/\k≠b1/\k≠b2/\k≠b3/\k≠b4):=λk hk=>by
  obtain⟨_,h2,h3,h4,h5,h6⟩:=hB1.apart k hk;exact⟨h6,h2,h3,h4,h5⟩
 obtain⟨QQ,hQQ⟩:∃QQ,JD (bodyPostM Fence.wide 0 prog Tryz.f176 λe W'=>(∃v,e=lo v)/\((∃M',J XS M' W')\/(∃pre M',Jx pre M' W')))=QQ:=⟨_,rfl⟩;have HQp:lO (∀c a w,¬QQ (.panic c) a w):=by
  intro c a w h;rw[<-hQQ]at h;exact h
 have HLv:lO (∀(tmps:Array Value) (ds:mc Nat) (wz:l9),C6 W.heap.size ds wz->((∃M',J XS M' wz)\/(∃pre M',Jx pre M' wz))->QQ .ret ⟨tmps,ds.map D8⟩ wz/\QQ .normal ⟨tmps,ds.map D8⟩ wz):=by
  intro tmps ds wz hm hp;rw[<-hQQ];have key:LeavesInM Fence.wide 0 prog Tryz.f176 tmps (λe W'=>(∃v,e=lo v)/\((∃M',J XS M' W')\/(∃pre M',Jx pre M' W'))) (ds.map D8) .returning wz:=by
   refine C5 ds wz hm (λw' hs=>⟨_,kV rfl _ _ _,⟨_,rfl⟩,?_⟩);rcases hp with⟨M',h⟩|⟨pre,M',h⟩
   .exact lx ⟨M',hs.own hJ (s:=(XS,M')) hm h⟩
   .exact ly ⟨pre,M',hs.own hJx (s:=(pre,M')) hm h⟩
  exact⟨key,key⟩
 have HK1:=Ab ((me [] W).alloc (.cells #[.func (.yield l) #[] #[]] 279));have HB5:=Ab (mf W [.func (.yield l) #[] #[]] 279);show Calls prog 176 #[.func (.yield l) #[] #[],kt (V ⟨b1,0,Y⟩),kt (V ⟨b2,0,Y⟩),kt (V ⟨b3,0,Y⟩),kt (V ⟨b4,0,Y⟩)] W _;refine Ec func176 rfl (FV ?_);rw[hQQ];clear hQQ hB hB1 hB2 hR hJ hJ0 hJx hXS hE hF c1 c3 c4 hkW hl1 hl2 ih hS hS0 he hv hvo hsb hog hj hTH hBT hVL hVj hto hvl zY;simp only[ntmps176,i7,gW,iv,Nat.reduceAdd,Nat.reduceSub,jZ,j4,kx,ke,i6,js];refine ma (λK1 HKk=>?_);go_wp2;refine HKk _ _ ?_;clear HKk K1;change Code.wp _ _ _ _ (W.alloc (.cells [.func (.yield l) #[] #[]].toArray 279));generalize hw1:W.alloc (.cells [.func (.yield l) #[] #[]].toArray 279)=w1 at HK1 HB5⊢;clear hw1;obtain⟨N,hN⟩:∃N,W.heap.size=N:=⟨_,rfl⟩;have HN:=Ab hN;rw[hN]at HB5⊢;clear hN;obtain⟨q2,q1,q3,q4⟩:=HCs w1 HK1;have HFb:=Ab (HFa w1 HK1);have Hq2:=Ab q2;clear q2;refine ma (λK1 HKk=>?_);go_wp2_with ((with_reducible show wpList _ _ _ ({dst:=_,op:=Op.load 243 _,type:=_,pos:=_,after:=_,guard:=_}::_) _ _);refine BH (by rfl) 243 _ rfl b2 0 (by rfl) E _ Hq2.range underlying243 rfl (by rw[Aa HL26];exact Tryz.zH) ?_)
 refine HFb.mono ?_;rintro _ w2 ⟨rfl,k2⟩;have HK2:=Ab (HK1.trans k2);have HB52:=Ab (HB5.kept k2 (by simp));have HJ2:lO (J [] M0 w2):=BB HJ (s:=([],M0)) HJ0 HK2;clear k2 q1 q3 q4 Hq2 HFb HFa HK1 HB5;cases F with
 |true=>
  have HXe:lO (XS=[]):=by show _=_;rw[Aa HX,gY rfl]
  go_wp2;exact(HLv _ [] w2 ⟨jT,λ_ h=>by simp at h,λ_ h=>by simp at h⟩ (lx ⟨M0,by rw[Aa HXe];exact HJ2⟩)).1
 |false=>
  have HXe:lO (XS=TH.flatMap BT):=by show _=_;rw[Aa HX,gV (by simp)]
  clear HX;go_wp2;refine HKk _ _ ?_;clear HKk K1;obtain⟨r2,r1,r3,r4⟩:=HCs w2 HK2;clear r2;refine ma (λK1 HKk=>?_);go_wp2;refine HKk _ _ ?_;clear HKk K1;obtain⟨o1,o2⟩:=EU w2 HK2;refine ma (λK1 HKk=>?_)
  .refine Cz 7 (λwz=>lP wz ⟨b1,0,Y⟩=V (kt (V ⟨sp,0,Y⟩))/\lP wz ⟨b3,0,Y⟩=V (X .i64 from_)/\lP wz ⟨sp,2,Y⟩=V (U (V ⟨og,0,Y⟩) VL ocap)/\lP wz ⟨og,from_,Y⟩=V (X .i32 ((j:Int)+65))) (by kernel_rfl) ?_
   have HHS:lO (lP w2.drew ⟨b1,0,Y⟩=V (kt (V ⟨sp,0,Y⟩))/\lP w2.drew ⟨b3,0,Y⟩=V (X .i64 from_)/\lP w2.drew ⟨sp,2,Y⟩=V (U (V ⟨og,0,Y⟩) VL ocap)/\lP w2.drew ⟨og,from_,Y⟩=V (X .i32 ((j:Int)+65))):=⟨r1,r3,o1,o2⟩
   refine Cx.tk (i:=0) (v:=kt (V ⟨sp,0,Y⟩)) rfl (by kernel_rfl) (Bq HQp) HHS (by rfl) ?_ ?_
   ·(rintro wz ⟨z0,z1,z2,z3⟩;go_simp)
   simp only[lY,gI,gJ,gK];refine Cx.tk (i:=1) (v:=kt (V ⟨sp,0,Y⟩)) rfl (by kernel_rfl) (Bq HQp) HHS (by rfl) ?_ ?_
   ·(rintro wz ⟨z0,z1,z2,z3⟩;go_simp)
   simp only[lY,gI,gJ,gK];refine Cx.tk (i:=2) (v:=kt (V ⟨sp,2,Y⟩)) rfl (by kernel_rfl) (Bq HQp) HHS (by rfl) ?_ ?_
   ·(rintro wz ⟨z0,z1,z2,z3⟩;go_simp)
   simp only[lY,gI,gJ,gK];refine Cx.tk (i:=3) (v:=U (V ⟨og,0,Y⟩) VL ocap) rfl (by kernel_rfl) (Bq HQp) HHS (by rfl) ?_ ?_
   ·(rintro wz ⟨z0,z1,z2,z3⟩;go_simp)
   simp only[lY,gI,gJ,gK];refine Cx.tk (i:=4) (v:=X .i64 from_) rfl (by kernel_rfl) (Bq HQp) HHS (by rfl) ?_ ?_
   ·(rintro wz ⟨z0,z1,z2,z3⟩;go_simp)
   simp only[lY,gI,gJ,gK];refine Cx.tk (i:=5) (v:=kt (V ⟨og,from_,Y⟩)) rfl (by kernel_rfl) (Bq HQp) HHS (by rfl) ?_ ?_
   ·(rintro wz ⟨z0,z1,z2,z3⟩;go_simp)
   simp only[lY,gI,gJ,gK];refine Cx.tk (i:=6) (v:=X .i32 ((j:Int)+65)) rfl (by kernel_rfl) (Bq HQp) HHS (by rfl) ?_ ?_
   ·(rintro wz ⟨z0,z1,z2,z3⟩;go_simp)
   simp only[lY,gI,gJ,gK];refine Cx.one (i:=7) (by kernel_rfl) rfl (λK hK=>?_)
   go_simp
   refine hK.out _ _ (λh=>absurd rfl h) ?_;clear hK K;refine Cx.done (by kernel_rfl) ?_ _
   try simp only[lY,gI,gJ,gK]
   refine HKk _ _ ?_;clear HKk K1 HHS r1 r3 r4 o1 o2;have HK3:=Ab (HK2.drew);have HJ3:lO (J [] M0 w2.drew):=BB HJ (s:=([],M0)) HJ2 (me [] w2).drew;have HB53:=Ab (HB52.drew);generalize w2.drew=w2d at HK3 HJ3 HB53⊢;clear HK2 HJ2 HB52;obtain⟨r2,r1,r3,r4⟩:=HCs w2d HK3;have Hr2:=Ab r2;have HAb:=Ab (HAl w2d HK3);clear r2 HAl;go_wp2_with ((with_reducible show wpList _ _ _ ({dst:=_,op:=Op.load 243 _,type:=_,pos:=_,after:=_,guard:=_}::_) _ _);refine BH (by rfl) 243 _ rfl b2 0 (by rfl) E _ Hr2.range underlying243 rfl (by rw[Aa HL26];exact Tryz.zH) ?_)
   refine HAb.mono ?_;rintro _ w3 ⟨ad,cp,rfl,hrow,k3⟩;have HK4:=Ab (HK3.trans k3);have HJ4:lO (J [] M0 w3):=BB HJ (s:=([],M0)) HJ3 k3;have HB54:=Ab (HB53.kept k3 (by simp));have HRow:=Ab (Am hrow (show W.heap.size<=w2d.heap.size from HK3.size))
   obtain⟨L,hL⟩:∃L,Z (TH.map AA)=L:=⟨_,rfl⟩;(have HL:lO (Z TH=L):=by show _=_;rw[<-hL,ie]);rw[hL]at HRow⊢;clear hrow k3 hL HAb HK3 HJ3 HB53 r1 r3 r4 Hr2;have HOw:lO (∀wz,Ac M0 w3 wz->AH wz b2 E 243/\AH wz b1 [kt (V ⟨sp,0,Y⟩)] 233/\AH wz b3 [X .i64 from_] 3/\AH wz b4 [X .i64 zg] 3/\AH wz N [.func (.yield l) #[] #[]] 279/\wz.ownsRow N 170 1 (U ad L cp) L ((TH.map AA).flatMap Ah)):=by
    intro wz hk;have hb:=HB.grow HK4;have hb2:=hb.bound;rw[Aa HEe]at hb2;have hap:=Aa HAp;have hn:=Aa HN;refine⟨hb2.kept hk (λh=>(hap _ h).2.2.1 rfl),hb.s.kept hk (λh=>(hap _ h).2.1 rfl),hb.fr.kept hk (λh=>(hap _ h).2.2.2.1 rfl),hb.zg.kept hk (λh=>(hap _ h).2.2.2.2 rfl),HB54.kept hk (λh=>by have:=(hap _ h).1;omega),?_⟩;have hr:=Aa HRow;rw[hn]at hr;exact Ai hr hk (λi hi hm=>by have h1:=(hr.lt i hi).1;have h2:=(hap i hm).1;omega)
   (go_wp2_with fail);refine wp_loop_ghost_k (λgk a wr=>∃(k:Nat) (M ds:mc Nat) (y7 y8 y9 y10 y11 y12 y13 y14 y15 y16 y17 y18 y19 y20 y21 y22 y23 y24 y25 y26 y27 y28 y32 y33 y34 y35 y36 y37 y38 y39 y40 y41 y42 y43 y44 y45 y46 y47 y48 y49:Value),a=⟨#[.func (.yield l) #[] #[],kt (V ⟨b1,0,Y⟩),kt (V ⟨b2,0,Y⟩),kt (V ⟨b3,0,Y⟩),kt (V ⟨b4,0,Y⟩),kt (V ⟨N,0,Y⟩),X .i32 ((j:Int)+65),y7,y8,y9,y10,y11,y12,y13,y14,y15,y16,y17,y18,y19,y20,y21,y22,y23,y24,y25,y26,y27,y28,U ad L cp,X .i64 L,X .i64 k,y32,y33,y34,y35,y36,y37,y38,y39,y40,y41,y42,y43,y44,y45,y46,y47,y48,y49],ds.map D8⟩/\k<=L/\gk=L-k/\lO (J ((TH.take k).flatMap BT) M wr)/\lO (Xa M0 w3 M wr)/\lO (C6 N ds wr/\∀D∈ds,D∉M)) L ?start ?round
   case start=>
    refine⟨0,M0,[],_,_,_,_,_,_,_,_,_,_,_,_,_,_,_,_,_,_,_,_,_,_,_,_,_,_,_,_,_,_,_,_,_,_,_,_,_,_,_,_,rfl,by omega,rfl,by rw[kI];exact HJ4,⟨me _ _,λq hq=>⟨lx hq,?_⟩⟩,⟨⟨jT,λ_ h=>by simp at h,λ_ h=>by simp at h⟩,λ_ h=>by simp at h⟩⟩;have h1:=(HAp q hq).1;have h2:=HK4.size;omega
   case round=>
    rintro gk a wr ⟨k,M,ds,y7,y8,y9,y10,y11,y12,y13,y14,y15,y16,y17,y18,y19,y20,y21,y22,y23,y24,y25,y26,y27,y28,y32,y33,y34,y35,y36,y37,y38,y39,y40,y41,y42,y43,y44,y45,y46,y47,y48,y49,rfl,hk,hgk,HJk,HOk,HMk⟩ JJ KK hJJ hKK;have HG:=Ab hgk;have HJJ:=Ab hJJ;have HKK:=Ab hKK;clear hgk hJJ hKK HJ4;by_cases hkl:k<L
    .obtain⟨s2,s1,s3,s4,s5,s6⟩:=HOw wr HOk.kept;(have hTk:k<Z TH:=by have:=Aa HL;omega);obtain⟨g,cap,hsl,hcell⟩:=F1 (l:=TH.map AA) (by rw[ie,Aa HL];exact s6) k (by rw[ie];exact hTk);rw[ie,Aa HL]at hsl;simp only[gM]at hsl;obtain⟨rfl,-,rfl⟩:=hsl;rw[List.getElem_map]at hcell;obtain⟨t,ht⟩:∃t,TH[k]=t:=⟨_,rfl⟩;rw[ht]at hcell;(have htc:A3 t:=by rw[<-ht];exact HCa _ (gL hTk));obtain⟨het,hEt⟩:=HEt t htc;(have HXk:lO (XS=(TH.take k).flatMap BT++(BT t++(TH.drop (k+1)).flatMap BT)):=by show _=_;rw[Aa HXe,bG BT TH k hTk,ht]);(have HTk:lO ((TH.take (k+1)).flatMap BT=(TH.take k).flatMap BT++BT t):=by show _=_;rw[WT BT TH k hTk,ht]);have HEt2:=Ab hEt;have HeT:=Ab het;(have hr0:(0:Int)<=(k:Int):=by omega);(have hr1:(k:Int)<(L:Int):=by omega);have hs2:=Ab s2;have c1:=s1.cell 0;have c3:=s3.cell 0;have c4:=s4.cell 0;simp at c1 c3 c4;have HS2:lO (∀wz,Ac [] wr wz->wz.rangeAt b2 0 E/\Ac [] wr wz/\lP wz ⟨b1,0,Y⟩=V (kt (V ⟨sp,0,Y⟩))/\lP wz ⟨b3,0,Y⟩=V (X .i64 from_)/\lP wz ⟨b4,0,Y⟩=V (X .i64 zg)):=λwz hk=>⟨(s2.kept hk (by simp)).range,hk,hk.cellAt c1,hk.cellAt c3,hk.cellAt c4⟩
     (have HWi:lO (∀wz,Calls prog 179 #[lR (j3 E),X .i32 ((j:Int)+65),O (AA t)] wz λr w'=>r=lo (lR (j3 (E.set j (O (AA t)))))/\Ac [] wz w'):=λwz=>Y6 E j (AA t) wz hl26 HVj.2 hc HO26);have HBw:lO (∀wz,Calls prog 141 #[kt (V ⟨sp,0,Y⟩),X .i64 ((from_:Int)+1),X .i64 zg,lR (j3 (E.set j (O (AA t))))] wz λr w'=>∃b1 b2 b3 b4,r=lo (.func (.func 176) #[] #[kt (V ⟨b1,0,Y⟩),kt (V ⟨b2,0,Y⟩),kt (V ⟨b3,0,Y⟩),kt (V ⟨b4,0,Y⟩)])/\
       AH w' b1 [kt (V ⟨sp,0,Y⟩)] 233/\AH w' b2 (E.set j (O (AA t))) 243/\AH w' b3 [X .i64 ((from_+1:Nat):Int)] 3/\AH w' b4 [X .i64 zg] 3/\(wz.heap.size<=b1/\wz.heap.size<=b2/\wz.heap.size<=b3/\wz.heap.size<=b4)/\Ac [] wz w'):=λwz=>by
      have h:=Hr sp (from_+1) zg (Aj (Be (e.set j t))) wz (Bv _) (by unfold Aj;rw[ie];exact Hb het);rw[hEt]at h;rw[show((from_:Int)+1)=((from_+1:Nat):Int) by omega];exact h
     clear ht htc het hEt s1 s3 s4 s5 s6 s2 c1 c3 c4;generalize AA t=tb at hcell HWi HBw HEt2;refine ma (λK1 HKk=>?_);go_wp2;refine HKk _ _ ?_;clear HKk K1;refine ma (λK1 HKk=>?_);go_wp2;refine HKk _ _ ?_;clear HKk K1;refine ma (λK5 HK5=>?_);refine wp_block ?_;refine ma (λK1 HKk=>?_);go_wp2;refine HKk _ _ ?_;clear HKk K1 hcell;refine ma (λK6 HK6=>?_);refine Cz 9 (λwz=>wz.rangeAt b2 0 E/\Ac [] wr wz/\lP wz ⟨b1,0,Y⟩=V (kt (V ⟨sp,0,Y⟩))/\lP wz ⟨b3,0,Y⟩=V (X .i64 from_)/\lP wz ⟨b4,0,Y⟩=V (X .i64 zg)) (by kernel_rfl) ?_
     have HHS:=Ab (HS2 wr.drew (me [] wr).drew);refine Cx.tkH (i:=0) (v:=kt (V ⟨sp,0,Y⟩)) rfl (by kernel_rfl) (Bq HQp) HHS (by rfl) ?_ ?_
     ·(rintro wz ⟨z0,z1,z2,z3,z4⟩;go_simp)
     simp only[lY,gI,gJ,gK];refine Cx.tkH (i:=1) (v:=X .i64 from_) rfl (by kernel_rfl) (Bq HQp) HHS (by rfl) ?_ ?_
     ·(rintro wz ⟨z0,z1,z2,z3,z4⟩;go_simp)
     simp only[lY,gI,gJ,gK];refine Cx.tkH (i:=2) (v:=X .i64 ((from_:Int)+1)) rfl (by kernel_rfl) (Bq HQp) HHS (by rfl) ?_ ?_
     ·(rintro wz ⟨z0,z1,z2,z3,z4⟩;go_simp)
     simp only[lY,gI,gJ,gK];refine Cx.tkH (i:=3) (v:=X .i64 zg) rfl (by kernel_rfl) (Bq HQp) HHS (by rfl) ?_ ?_
     ·(rintro wz ⟨z0,z1,z2,z3,z4⟩;go_simp)
     simp only[lY,gI,gJ,gK];refine Cx.yG (i:=4) (v:=lR (j3 E)) rfl (by kernel_rfl) (by kernel_rfl) (by kernel_rfl) (by decide) (λ_ _ _ h=>absurd h (HQp _ _ _)) HHS (yieldsIf_load_mid (by rfl) 243 _ rfl b2 0 (by rfl) E _ (λwz hz=>hz.1) underlying243 rfl (by rw[Aa HL26];exact Tryz.zH)) ?_;simp only[lY,gI,gJ,gK];refine Cx.tkH (i:=5) (v:=X .i32 ((j:Int)+65)) rfl (by kernel_rfl) (Bq HQp) HHS (by rfl) ?_ ?_
     ·(rintro wz ⟨z0,z1,z2,z3,z4⟩;go_simp)
     simp only[lY,gI,gJ,gK];refine Cx.tkH (i:=6) (v:=O tb) rfl (by kernel_rfl) (Bq HQp) HHS (by rfl) ?_ ?_
     ·(rintro wz ⟨z0,z1,z2,z3,z4⟩;go_simp)
     simp only[lY,gI,gJ,gK];refine Cx.one (i:=7) (by kernel_rfl) rfl (λK hK=>?_)
     go_simp
     refine(HWi _).mono ?_;rintro _ w4 ⟨rfl,k4⟩;have hk4:Ac [] wr w4:=(me [] wr).drew.trans k4;refine hK.out _ _ (λ_=>HS2 w4 hk4) ?_;clear hK K;have HK4':=Ab hk4;clear k4 hk4
     try simp only[lY,gI,gJ,gK]
     refine Cx.one (i:=8) (by kernel_rfl) rfl (λK hK=>?_)
     go_simp
     refine(HBw _).mono ?_;rintro _ w5 ⟨d1,d2,d3,d4,rfl,n1,n2,n3,n4,hds,k5⟩;have hk5:Ac [] wr w5:=HK4'.trans k5;refine hK.out _ _ (λ_=>HS2 w5 hk5) ?_;clear hK K;refine Cx.done (by kernel_rfl) ?_ _
     try simp only[lY,gI,gJ,gK]
     refine HK6 _ _ ?_;clear HK6 K6 HHS HWi HBw HS2;(have hMw:∀q∈M,q<wr.heap.size:=λq hq=>(HOk.mem q hq).2);have hl5:=Aa HLl;have hsz5:=k5.size;have hsz4:=HK4'.size;have hszr:=HOk.kept.size;have hszw:=HK4.size;have hbt:Tv w0 M1 sp d1 d2 d3 d4 (from_+1) zg (e.set j t) (l::M) w5:=by
      refine⟨?_,n1,by rw[Aa HEt2];exact n2,n3,n4,λq hq=>?_⟩
      .exact(HB.kept.trans (HK4.mono (by simp))).trans' (HOk.kept.trans (hk5.mono (by simp))) (λi hi=>(HB.apart i hi).1)
      .have hq2:(q∈M1\/w0.heap.size<=q)/\q<wr.heap.size:=by
        have h0:=HB.kept.size;rcases gP.1 hq with rfl|hq
        .have h1:=hl5.2.2.2.kept.size;exact⟨ly (by omega),by omega⟩
        .refine⟨?_,hMw q hq⟩;rcases(HOk.mem q hq).1 with h|h
         .exact(HB.apart q h).1
         .exact ly (by omega)
       obtain⟨g1,g2,g3,g4⟩:=hds;exact⟨hq2.1,by omega,by omega,by omega,by omega,by omega⟩
     have zn:=Aa HIh (e.set j t) d1 d2 d3 d4 w5 (l::M) HeT hbt;rw[Aa HBT t]at zn;have hJ5:J ((TH.take k).flatMap BT) M w5:=BB HJ (s:=((TH.take k).flatMap BT,M)) HJk hk5;have HO5:lO (Xa M0 w3 M w5):=HOk.step (hk5.mono (by simp)) (λq hq=>⟨lx hq,by have:=hMw q hq;omega⟩);have HM5:lO (C6 N ds w5/\∀D∈ds,D∉M):=⟨Lv HMk.1 hk5 (λ_ _ h=>by simp at h),HMk.2⟩;(have hB5s:W.heap.size<=w5.heap.size:=by omega);refine wp_block ?_;refine Ir (T:=243) (q:=9) rfl (enters_of func176 (by kernel_rfl) rfl) zn (λq hq=>by
      rcases gP.1 hq with rfl|hq
      .omega
      .have:=hMw q hq;omega) (Vx J l ((TH.take k).flatMap BT) M w5) (λc _ _ W'=>VG Jx l M w5 c W') (Vx.own HJ hB5s) (λc=>VG.own HJx hB5s c) ⟨M,rfl,by rw[iJ];exact hJ5,me _ _,λq hq=>⟨lx hq,by have:=hMw q hq;omega⟩⟩ ?rassign ?rbody ?rdone ?rstop
     case rassign=>
      intro l' x W' K hx HK;(have hxl:Z (Aj (Be x))=26:=by unfold Aj Be;rw[ie,ie];exact HLx t x hx);have HXo:lO (∀u∈Aj (Be x),u.oneCell'=j1):=by
       intro u hu;unfold Aj at hu;obtain⟨y,_,rfl⟩:=gX.1 hu;rfl
      obtain⟨EX,hEX⟩:∃EX,Aj (Be x)=EX:=⟨_,rfl⟩;rw[hEX]at hxl HXo HK⊢;have HXl:=Ab hxl;(have HXa:lO (EX.toArray.size=26):=by show _=_;simp[hxl]);clear hx hEX hxl;simp only[gI,gJ,gK]at HK⊢;refine AG (by rfl) (Hc F0) ?_;go_wp2_with ((with_reducible show wpList _ _ _ ({dst:=_,op:=Op.store 243 _ _,type:=_,pos:=_,after:=_,guard:=_}::_) _ _);refine jO rfl 243 _ _ rfl W'.heap.size 0 (j3 EX) (by rfl) (by rfl) ?_ ?_ ?_ ?_)
      .have h:=(mf W' (lV 26 (O ⟨#[]⟩)) 243).there;simp only[jE]at h;rw[Aa HXa];exact h
      .rw[Aa HXa];exact Tryz.zH
      .exact jk HXo
      .refine HK _ (((me [] W').alloc (.cells (j3 (lV 26 (O ⟨#[]⟩))) 243)).zJ (b:=W'.heap.size) (ly (ig _)) EX 0) ?_;exact(mf W' (lV 26 (O ⟨#[]⟩)) 243).zU EX (by rw[Aa HXl];simp)
     case rbody=>
      intro l' Bx pre x rest' M' W' hxs hi hM' hBx hblk;obtain⟨Mo,rfl,hj6,ho6⟩:=hi.at_;have hyB:AH W' N [.func (.yield l) #[] #[]] 279:=by
       have h5:=(HOw w5 HO5.kept).2.2.2.2.1;refine h5.kept ho6.kept (λh=>?_);rcases(HOk.mem N h).1 with h|h
       .have:=(HAp N h).1;have:=Aa HN;omega
       .have h7:=HB54.lt;omega
      have HY:=Ab (HRo ((TH.take k).flatMap BT++pre) x (rest'++(TH.drop (k+1)).flatMap BT) Mo W' (by rw[Aa HXk,hxs];simp) hj6);have cy:=hyB.cell 0;simp at cy;(have hxl:Z (Aj (Be x))=26:=by unfold Aj Be;rw[ie,ie];exact HLx t x (by rw[hxs];simp));obtain⟨EX,hEX⟩:∃EX,Aj (Be x)=EX:=⟨_,rfl⟩;simp only[hEX]at hxl hblk HY⊢;have HBl:=Ab hblk;have HXl:=Ab hxl;have HO6:=Ab ho6;clear hi hblk hxl hyB hj6 ho6 hM' hEX hxs;simp only[gI,gJ,gK];refine wpIn_block ?_;refine jd (λK3 hK3=>?_);have HK3':=Ab hK3;clear hK3;refine ON (n:=0) 2 (by rfl) (by rintro ⟨_,_,h⟩;exact h) (λK2 HK2'=>?_);simp only[kc,kI];go_wp2_with ((with_reducible show wpList _ _ _ ({dst:=_,op:=Op.load 243 _,type:=_,pos:=_,after:=_,guard:=_}::_) _ _);refine BH (by rfl) 243 _ rfl Bx 0 (by rfl) EX _ HBl.range underlying243 rfl (by rw[Aa HXl];exact Tryz.zH) ?_)
      refine HK2' _ _ ?_;clear HK2' K2;simp only[kB,kS];refine Jj (F:=Fence.wide.inRound l') (λ_=>trivial) rfl rfl (l:=l) (args:=#[lR (j3 EX)]) (by rfl) (by first|(simp[go_sem,Oper.semAt];done)|(simp[go_sem,Oper.semAt,execOp,resolve,invoke];done)) HY ?_;rintro r w6 (⟨rfl,M6,hj6,hk6,hM6⟩|⟨rfl,M6,hj6,hk6⟩)
      .refine⟨_,rfl,JX (by rfl) (by rintro ⟨_,_,h⟩;exact h) ?_⟩;simp only[lY,gI,gJ,gK];have HP:lO (LI (Vx J l ((TH.take k).flatMap BT) M w5) (λc _ _ W'=>VG Jx l M w5 c W') (pre++[x]) (l::Mo) W' .normal ⟨#[],[]⟩ w6):=by
        (have hll:l<w6.heap.size:=by have:=hk6.size;have:=HO6.kept.size;omega);refine⟨hk6.mono (λi hi=>iB _ hi),l::M6,⟨M6,rfl,by rw[<-iT];exact hj6,HO6.step hk6 hM6⟩,λq hq=>?_⟩;rcases gP.1 hq with rfl|hq
        .exact⟨lx (iV ..),hll⟩
        .refine⟨?_,(hM6 q hq).2⟩;rcases(hM6 q hq).1 with h|h
         .exact lx (iB _ h)
         .exact ly h
       clear hj6 hk6 hM6 HY;go_wp2;refine HK3' _ _ ?_;clear HK3' K3;refine ki rfl (wpIn_skip ?_);exact HP
      .refine⟨_,rfl,JX (by rfl) (by rintro ⟨_,_,h⟩;exact h) ?_⟩;simp only[lY,gI,gJ,gK];have HP:lO (LI (Vx J l ((TH.take k).flatMap BT) M w5) (λc _ _ W'=>VG Jx l M w5 c W') (pre++[x]) (l::Mo) W' .ret ⟨#[],[]⟩ w6):=by
        refine⟨hk6,M6,rfl,⟨_,M6,hj6⟩,?_⟩;refine(HO6.kept.mono (N:=l::M) (λi hi=>iB _ hi)).trans' hk6 (λi hi=>?_);rcases gP.1 hi with rfl|hi
        .exact lx (iV ..)
        .exact((HO6.mem i hi).1).imp (λh=>iB _ h) id
       clear hj6 hk6 HY;go_wp2;refine HK3' _ _ ?_;clear HK3' K3;refine ku rfl (wpIn_ret ?_);exact HP
     case rdone=>
      intro D M' W' hD hi hd hDM;obtain⟨Mo,rfl,hj6,ho6⟩:=hi.at_;have HO6:lO (Xa M0 w3 Mo W'):=HO5.step ho6.kept ho6.mem;(have hDl:=λq (hq:q∈Mo)=>(ho6.mem q hq).1);have HM6:lO (C6 N (D::ds) W'/\∀d∈D::ds,d∉Mo):=by
       have hm:=Lv HM5.1 ho6.kept HM5.2;have zY:=U4 HM5.1;refine⟨⟨jG.2 ⟨λh=>by have:=zY D h;omega,hm.nodup⟩,λd hd'=>?_,λd hd'=>?_⟩,λd hd' hm'=>?_⟩
       .rcases gP.1 hd' with rfl|hd'
        .have:=Aa HN;omega
        .exact hm.ge d hd'
       .rcases gP.1 hd' with rfl|hd'
        .exact hd
        .exact hm.at_ d hd'
       .rcases gP.1 hd' with rfl|hd'
        .exact hDM _ (iB _ hm') rfl
        .rcases(ho6.mem d hm').1 with h|h
         .exact HM5.2 d hd' h
         .have:=zY d hd';omega
      (have HJ6:lO (J ((TH.take (k+1)).flatMap BT) Mo W'):=by rw[Aa HTk];exact hj6);clear hi hj6 ho6 hDl;refine HK5 _ _ ?_;clear HK5;go_wp2;refine HKK _ _ (Handed.intro (L-(k+1)) (by have:=Aa HG;omega) (HJJ _ _ _ ?_));have hcast:wrap64 ((k:Int)+1)=((k+1:Nat):Int):=dp k (by have:=Aa HTl;have:=Aa HL;omega);rw[hcast];exact⟨k+1,Mo,D::ds,_,_,_,_,_,_,_,_,_,_,_,_,_,_,_,_,_,_,_,_,_,_,_,_,_,_,_,_,_,_,_,_,_,_,_,_,_,_,_,_,rfl,hkl,rfl,HJ6,HO6,HM6⟩
     case rstop=>
      intro D c pre M' W' hD hx hd;obtain rfl:=hx.ret;obtain⟨pre',Mo,hjx⟩:=hx.at_;have zY:=U4 HM5.1;have hm:C6 W.heap.size (D::ds) W':=by
       have hm:=Lv HM5.1 hx.kept (λd hd' h=>by
        rcases gP.1 h with rfl|h
        .have:=HM5.1.ge _ hd';have:=Aa HN;omega
        .exact HM5.2 d hd' h)
       refine⟨jG.2 ⟨λh=>by have:=zY D h;omega,hm.nodup⟩,λd hd'=>?_,λd hd'=>?_⟩
       .rcases gP.1 hd' with rfl|hd'
        .omega
        .have:=hm.ge d hd';have:=Aa HN;omega
       .rcases gP.1 hd' with rfl|hd'
        .exact hd
        .exact hm.at_ d hd'
      refine wp_ret ?_;exact(HLv _ (D::ds) W' hm (ly ⟨pre',Mo,hjx⟩)).1
    ·(have hr1:¬(k:Int)<(L:Int):=by omega);have HJe:lO (J XS M wr):=by
      have h:=Aa HJk;rw[gR (by have:=Aa HL;omega),<-Aa HXe]at h;exact h
     go_wp2;exact(HLv _ ds wr (by rw[Aa HN];exact HMk.1) (lx ⟨M,HJe⟩)).2
