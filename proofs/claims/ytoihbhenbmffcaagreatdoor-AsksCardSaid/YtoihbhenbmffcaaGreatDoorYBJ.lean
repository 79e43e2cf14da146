import Derived.Test.YtoihbhenbmffcaaGreatDoorYBI
set_option linter.all false
set_option maxHeartbeats 0
namespace Go.Proofs.YtoihbhenbmffcaaGreatDoor
open Go.RowKit Go.Proofs.Tryz
theorem YK{α β:Type}(f:α->List β)(l:List α)(k:Nat)(a:k<l.length):l.flatMap f=(l.take k).flatMap f++(f l[k]++(l.drop (k+1)).flatMap f):=by
 conv=>lhs;rw[<-dl k l,cw,ci a,cg]
theorem UQ{α β:Type}(f:α->List β)(l:List α)(k:Nat)(a:k<l.length):(l.take (k+1)).flatMap f=(l.take k).flatMap f++f l[k]:=by
 rw[bM a,cw];simp
theorem ZR{a:List Bg}{s:List Ah}(m:∀f∈s,A4 f)(j:Vy s a)(v:UInt8)(e:List cR):(IX a s v e).length<=s.length:=by
 have g:=Fd a s v e;cases hl:CJ a s v e with
 |nil=>
  cases ha:IX a s v e with
  |nil=>simp
  |cons t l=>
   have h:=(g t).1 (by rw[ha];simp);exact absurd hl h.1
 |cons l ls=>
  have c:l∈CJ a s v e:=by rw[hl];simp
  have n:l.length<=s.length:=by
   unfold CJ at c;obtain⟨x,p,b⟩:=dY.1 c;by_cases d:(x.kind==97)=true
   .rw[if_pos d,eK]at b;obtain⟨i,o,rfl⟩:=b;unfold FY;rw[bX];exact dw _ _
   .rw[if_neg d]at b;cases b
  have:=Lq (IX a s v e) l (Qo m j v e) (λt k=>((g t).1 k).2 l c);omega
theorem Z8{w:World}{b:Nat}{a:List Bg}{s:List Ah}{c:List UInt8}(h:Yl w b a s c)(v:UInt8)(e:List cR):(IX a s v e).length<=10000:=by
 obtain⟨t,n,u,m,k,o,f,r,j,p,l,g,q,i,d⟩:=h.at_;have:=ZR d.canon h.fit v e;have:=h.len;omega
section
variable {P:Program} {ops:Array Oper} {Q:Exit->Act->World->Prop} {md:Region.Mode} {S:World->Prop} {k:Nat}
theorem Ce.firstH{i:Nat}{n:Oper}{v:Value}(A:ops[i]?=some n)(G:∀(j:Nat) (o:Oper) p b,ops[j]?=some o->o.op≠ .select p b)
  (N:∀c a w,Q (.panic c) (a.put n.dst v) w->Q (.panic c) a w) (hW:ops.size<=k):
  ∀(r:Nat) (f:Array Bool) (a:Act) (w:World),
   (∀j m,ops[j]?=some m->j≠i->f.getD j true=false->(∀e∈m.after,Region.binds md e=true->e.on≠i)->n.apart ops m=true)->
   i∈Region.ready md ops f->YieldsIf P ops S n v a->S w->
   Ce P md ops Q S k r (f.setIfInBounds i true) (a.put n.dst v) w->Ce P md ops Q S k (r+1) f a w:=by
 intro r
 induction r with
 |zero=>
  intro f a w _ l u t H;refine⟨λh=>(by rw[h]at l;cases l),λj s=>?_⟩;by_cases d:j=i
  .subst d;exact u.wpOp A t ⟨λ_=>t,H⟩
  .have:=fC s d;rw[H.1]at this;cases this
 |succ r ih=>
  intro f a w D l u t H;have F:=(mem_ready.1 l).1;refine⟨λh=>(by rw[h]at l;cases l),λj s=>?_⟩;by_cases d:j=i
  .subst d;exact u.wpOp A t ⟨λ_=>t,H⟩
  .have C:j≠k:=λe=>by
    obtain⟨_,o,V,_⟩:=mem_ready.1 s;have:=(cS.1 V).1;omega
   have U:=H.2 j (fC s d);obtain⟨B,m,y,X⟩:=mem_ready.1 s;have R:∀e∈m.after,Region.binds md e=true->e.on≠i:=λe Y L M=>by
    have g:=X e Y L;rw[M]at g;rcases Nat.lt_or_ge i f.size with z|z
    .simp[z]at F g;rw[F]at g;cases g
    .simp[eL z]at g
   have g:=wpOp_putIf y (D j m y d B R) (λp b=>G i n p b A) (λp b=>G j m p b y) N u U;refine wpOp_mono (λT K x=>⟨λ_=>x.2.1 C,ih (f.setIfInBounds j true) T K (λq Z O W I J=>D q Z O W ?_ J) (fC l (Ne.symm d)) x.1 (x.2.1 C) ?_⟩) g
   .by_cases E:j=q
    .subst E;exact B
    .rw[getD_set_ne true E]at I;exact I
   .rw[fD _ _ d];exact x.2.2
theorem Ce.zH{i:Nat}{d:Oper}{v:Value}{fuel:Nat}{b:Array Bool}{a:Act}{w:World}(e:ops[i]?=some d)
  (n:Region.noSelect ops=true) (f:Region.free md ops b i=true) (m:(Region.ready md ops b).contains i=true) (g:ops.size<=k)
  (o:∀c a w,Q (.panic c) (a.put d.dst v) w->Q (.panic c) a w) (l:S w) (j:YieldsIf P ops S d v a)
  (h:Ce P md ops Q S k fuel (b.setIfInBounds i true) (a.put d.dst v) w):Ce P md ops Q S k (fuel+1) b a w:=
 Ce.firstH e (Region.noSelect_spec n) o g fuel b a w (Region.free_spec e f) (by simpa using m) j l h
theorem Ce.tkH{i:Nat}{d:Oper}{v:Value}{fuel:Nat}{e:Array Bool}{a:Act}{w:World}(m:ops[i]?=some d)(b:bC md ops e i (decide (ops.size<=k))=true)
  (l:∀c a w,Q (.panic c) (a.put d.dst v) w->Q (.panic c) a w) (j:Hid (S w)) (f:Region.wanted d (yielded ops a.tmps)=true) (g:∀w,S w->(execOp a.eval d).run P w=.ok (.value v) w)
  (h:Ce P md ops Q S k fuel (e.setIfInBounds i true) (a.put d.dst v) w):Ce P md ops Q S k (fuel+1) e a w:=by
 unfold bC at b;simp only[cq,fi]at b;exact Ce.zH m b.1.1.1 b.1.1.2 b.1.2 b.2 l (Aa j) (Or.inl ⟨f,g⟩) h
end
theorem ZB(k:Nat)(h:k<=1000000):wrap64 ((k:Int)+1)=((k+1:Nat):Int):=by
 unfold wrap64;omega
def Kd(Q:Exit->Act->World->Prop):Exit->Act->World->Prop
 | .panic _,_,_=>False
 | .outgrown,_,_=>False
 |e,a,w=>Q e a w
theorem GJ{P:Program}{c:Code}{Q:Exit->Act->World->Prop}{a:Act}{w:World}(h:c.wp P (Kd Q) a w):c.wp P Q a w:=wp_mono h (λe a w h=>by
 cases e<;>first|exact h|exact h.elim)
structure U4(M0:List Nat)(w3:World)(M:List Nat)(w:World):Prop where
 kept:Ac M0 w3 w
 mem:∀q∈M,(q∈M0\/w3.heap.size<=q)/\q<w.heap.size
theorem U4.step{b M f:List Nat}{d w w':World}(h:U4 b d M w)(k:Ac M w w')(e:∀q∈f,(q∈M\/w.heap.size<=q)/\q<w'.heap.size):U4 b d f w':=
 ⟨h.kept.trans' k (λi g=>(h.mem i g).1),λq c=>⟨by
  rcases(e q c).1 with a|a
  .exact(h.mem q a).1
  .exact Or.inr (da h.kept.size a),(e q c).2⟩⟩
structure Tq(J:List (List cR)->List Nat->World->Prop)(l:Nat)(P0:List (List cR))(M:List Nat)(w5:World)(pre:List (List cR))(M':List Nat)(W:World):Prop where
 at_:∃Mo,M'=l::Mo/\J (P0++pre) Mo W/\U4 M w5 Mo W
structure TB(Jx:List (List cR)->List Nat->World->Prop)(l:Nat)(M:List Nat)(w5:World)(c:Code)(W:World):Prop where
 ret:c=.ret
 at_:∃pre Mo,Jx pre Mo W
 kept:Ac (l::M) w5 W
theorem Tq.own{J:List (List cR)->List Nat->World->Prop}{B l:Nat}{f:List (List cR)}{M:List Nat}{d:World}(m:OwnFrom B (fun(s:List (List cR)×List Nat) W=>J s.1 s.2 W))(o:B<=d.heap.size):OwnFrom d.heap.size (fun(s:List (List cR)×List Nat) W=>Tq J l f M d s.1 s.2 W):=λs A C j n b a=>by
 obtain⟨h,k,i,c⟩:=n.at_;refine⟨h,k,m (f++s.1,h) A C j i b (λr e=>⟨by have:=(a r e).1;omega,(a r e).2⟩),c.kept.grown b (λr e=>Or.inr (a r e).1),λq g=>⟨(c.mem q g).1,dJ (c.mem q g).2 b.size⟩⟩
theorem TB.own{i:List (List cR)->List Nat->World->Prop}{B l:Nat}{M:List Nat}{b:World}(m:OwnFrom B (fun(s:List (List cR)×List Nat) W=>i s.1 s.2 W))(n:B<=b.heap.size)(c:Code):OwnFrom b.heap.size (fun(s:List (List cR)×List Nat) W=>TB i l M b c W):=λs A C k d g a=>by
 obtain⟨f,h,j⟩:=d.at_;exact⟨d.ret,⟨f,h,m (f,h) A C k j g (λr e=>⟨by have:=(a r e).1;omega,(a r e).2⟩)⟩,d.kept.grown g (λr e=>Or.inr (a r e).1)⟩
theorem FQ{al:UInt8->List cR->List cR}{d:List Bg}{s:List Ah}:∀(c:List UInt8) (e:List cR),e.length=26->∀b∈As al d s c e,b.length=26
 |[],e,he,b,a=>by
  rw[As]at a;split at a
  .simp at a
  .rw[bO]at a;rw[a];exact he
 |v::c,e,he,b,a=>by
  rw[As]at a;split at a
  .simp at a
  .obtain⟨t,_,a⟩:=cO.1 a;exact FQ c _ (by rw[dX];exact he) b a
theorem Kw{B:Nat}{M:List Nat}{ds:List Nat}{w w':World}(h:C1 B ds w)(k:Ac M w w')(b:∀D∈ds,D∉M):C1 B ds w':=
 ⟨h.nodup,h.ge,λD a=>(k.block D (cS.1 (h.at_ D a)).1 (b D a)).trans (h.at_ D a)⟩
theorem S4{B:Nat}{ds:List Nat}{w:World}(h:C1 B ds w):∀D∈ds,D<w.heap.size:=λD a=>(cS.1 (h.at_ D a)).1
set_option maxRecDepth 100000
theorem Rf(sp:Nat)(body:List Bg)(s:List Ah)(vs:List UInt8)(w0:World)(M1:List Nat)(hS0:∀wz,Ac M1 w0 wz->Yl wz sp body s vs)(v:UInt8)(rest:List UInt8)(from_ gR:Nat)(e:List cR)(b1 b2 b3 b4:Nat)(w:World)(M0:List Nat)(he:CP e)
  (gK:from_<gR) (hto:gR<=vs.length) (hv:vs[from_]'(by omega)=v) (hB:Ry w0 M1 sp b1 b2 b3 b4 from_ gR e M0 w)
  (ih:∀(e':List cR) (c1 c2 c3 c4:Nat) (w':World) (M:List Nat),CP e'->Ry w0 M1 sp c1 c2 c3 c4 (from_+1) gR e' M w'->
   Kr prog 176 #[.pointer (some ⟨c1,0,none⟩),.pointer (some ⟨c2,0,none⟩),.pointer (some ⟨c3,0,none⟩),.pointer (some ⟨c4,0,none⟩)] (λx=>#[.agg (Ai (Bf x)).toArray]) (As (IX body s) body s rest e') M w'):
  Kr prog 176 #[.pointer (some ⟨b1,0,none⟩),.pointer (some ⟨b2,0,none⟩),.pointer (some ⟨b3,0,none⟩),.pointer (some ⟨b4,0,none⟩)] (λx=>#[.agg (Ai (Bf x)).toArray]) (As (IX body s) body s (v::rest) e) M0 w:=by
 intro l J Jx W hkW hl1 hl2 hJ hJx hR hJ0;have hS:=hS0 _ hB.kept;have hvo:DH v:=by rw[<-hv];exact hS.ok _ (bL _)
 have hB1:=hB.grow hkW;have HFa:Hid (∀wz,Ac [] W wz->Calls prog 177 #[.pointer (some ⟨sp,0,none⟩),.agg (Ai (Bf e)).toArray] wz λr w'=>r=.returned (.bool (DT body s e))/\Ac [] wz w'):=λwz hk=>QT (hS0 _ (hB1.kept.trans (hk.mono (by simp)))) he
 have HAl:Hid (∀wz,Ac [] W wz->Calls prog 178 #[.pointer (some ⟨sp,0,none⟩),.int .i32 (v.toNat:Int),.agg (Ai (Bf e)).toArray] wz λr w'=>∃(ad:Option Addr) (cp:Nat),r=.returned (.slice ad ((IX body s v e).map Aw).length cp)/\
   w'.ownsRow wz.heap.size 170 1 (.slice ad ((IX body s v e).map Aw).length cp) ((IX body s v e).map Aw).length (((IX body s v e).map Aw).flatMap Ae)/\Ac [] wz w'):=λwz hk=>Sd (hS0 _ (hB1.kept.trans (hk.mono (by simp)))) he hvo
 have hc:=Bo (Bf e);have hl26:(Ai (Bf e)).length=26:=by unfold Ai;rw[bX];exact GM he
 have HL26:=Ab hl26;have HO26:Hid (∀u∈Ai (Bf e),u.oneCell'=true):=by
  intro u hu;unfold Ai at hu;obtain⟨y,_,rfl⟩:=bV.1 hu;rfl
 have HX:Hid (As (IX body s) body s (v::rest) e=if DT body s e then[] else(IX body s v e).flatMap λt=>As (IX body s) body s rest (e.set (v.toNat-65) t)):=by show _=_;rw[As]
 have HCa:Hid (∀t∈IX body s v e,AX t):=Xr hS v e;have HTl:Hid ((IX body s v e).length<=10000):=Z8 hS v e;have HEt:Hid (∀t,AX t->CP (e.set (v.toNat-65) t)/\Ai (Bf (e.set (v.toNat-65) t))=(Ai (Bf e)).set (v.toNat-65) (.string (Aw t))):=λt ht=>⟨he.set _ ht,by rw[ZL e _ ht];unfold Ai;rw[gd]⟩
 obtain⟨kb,ko,bv,og,ocap,hsb,hog⟩:=Xw hS from_ (by omega)
 rw[hv]at hog;have HSt:Hid (∀wz,Ac [] W wz->wz.cell? ⟨sp,2,none⟩=some (.slice (some ⟨og,0,none⟩) vs.length ocap)/\wz.cell? ⟨og,from_,none⟩=some (.int .i32 (v.toNat:Int))):=λwz hk=>by
  have h1:=(hsb.kept (hkW.trans hk) (by simp)).cell 2;simp at h1;exact⟨h1,(hkW.trans hk).cellAt hog⟩
 have HIh:=Ab ih;have HRo:=Ab hR;have HJ:=Ab hJ;have HJx:=Ab hJx;have HJ0:=Ab hJ0;have HB:=Ab hB1;have HLl:Hid (w.heap.size<=l/\l<W.heap.size/\Ac [] w W/\Ry w0 M1 sp b1 b2 b3 b4 from_ gR e M0 w):=⟨hl1,hl2,hkW,hB⟩
 have HVo:=Ab hvo;obtain⟨j,hj⟩:∃j:Nat,v.toNat-65=j:=⟨_,rfl⟩;have HVj:Hid ((v.toNat:Int)=(j:Int)+65/\j<26):=by
  obtain⟨h1,h2⟩:=hvo;exact⟨by omega,by omega⟩
 rw[hj]at HX HEt;obtain⟨TH,hTH⟩:∃TH,IX body s v e=TH:=⟨_,rfl⟩;rw[hTH]at HX HCa HAl HTl;obtain⟨BT,hBT⟩:∃BT:cR->List (List cR),(λt=>As (IX body s) body s rest (e.set j t))=BT:=⟨_,rfl⟩;have HBT:Hid (∀t,As (IX body s) body s rest (e.set j t)=BT t):=λt=>by rw[<-hBT]
 have HLx:Hid (∀t,∀x∈BT t,x.length=26):=λt x hx=>by
  rw[<-hBT]at hx;exact FQ rest _ (by rw[dX];exact he.len) x hx
 rw[hBT]at HX;obtain⟨XS,hXS⟩:∃XS,As (IX body s) body s (v::rest) e=XS:=⟨_,rfl⟩;rw[hXS]at HX HRo⊢;obtain⟨F,hF⟩:∃F,DT body s e=F:=⟨_,rfl⟩;rw[hF]at HX HFa;obtain⟨E,hE⟩:∃E,Ai (Bf e)=E:=⟨_,rfl⟩;have HEe:=Ab hE;have hB2:=hB1.bound;rw[hE]at hc hl26 HL26 HO26 HFa HAl HEt hB2;have hVj:=Aa HVj;rw[hVj.1]at HAl HSt;have c1:=hB1.s.cell 0;have c3:=hB1.fr.cell 0;have c4:=hB1.gR.cell 0;simp at c1 c3 c4;have HCs:Hid (∀wz,Ac [] W wz->AE wz b2 E 243/\wz.cell? ⟨b1,0,none⟩=some (.pointer (some ⟨sp,0,none⟩))/\wz.cell? ⟨b3,0,none⟩=some (.int .i64 from_)/\wz.cell? ⟨b4,0,none⟩=some (.int .i64 gR)):=λwz hk=>⟨hB2.kept hk (by simp),hk.cellAt c1,hk.cellAt c3,hk.cellAt c4⟩
 have hne:((from_:Int)==(gR:Int))=false:=by simp;omega
 have hf0:(0:Int)<=(from_:Int):=by omega
 have hf1:(from_:Int)<(vs.length:Int):=by omega
 have hvl:=hS.zC;have hwr:IntKind.i64.wrap ((from_:Int)+1)=(from_:Int)+1:=by rw[eM];omega
 obtain⟨VL,hVL⟩:∃VL,vs.length=VL:=⟨_,rfl⟩;rw[hVL]at hf1 HSt;have HAp:Hid (∀k∈M0,k<W.heap.size/\k≠b1/\k≠b2/\k≠b3/\k≠b4):=λk hk=>by
  obtain⟨_,h2,h3,h4,h5,h6⟩:=hB1.apart k hk;exact⟨h6,h2,h3,h4,h5⟩
 obtain⟨QQ,hQQ⟩:∃QQ,Kd (bodyPostM Fence.wide 0 prog Tryz.f176 λe W'=>(∃v,e=.returned v)/\((∃M',J XS M' W')\/(∃pre M',Jx pre M' W')))=QQ:=⟨_,rfl⟩;have HQp:Hid (∀c a w,¬QQ (.panic c) a w):=by
  intro c a w h;rw[<-hQQ]at h;exact h
 have HLv:Hid (∀(tmps:Array Value) (ds:List Nat) (wz:World),C1 W.heap.size ds wz->((∃M',J XS M' wz)\/(∃pre M',Jx pre M' wz))->QQ .ret ⟨tmps,ds.map DY⟩ wz/\QQ .normal ⟨tmps,ds.map DY⟩ wz):=by
  intro tmps ds wz hm hp;rw[<-hQQ];have key:LeavesInM Fence.wide 0 prog Tryz.f176 tmps (λe W'=>(∃v,e=.returned v)/\((∃M',J XS M' W')\/(∃pre M',Jx pre M' W'))) (ds.map DY) .returning wz:=by
   refine Dk ds wz hm (λw' hs=>⟨_,fE rfl _ _ _,⟨_,rfl⟩,?_⟩);rcases hp with⟨M',h⟩|⟨pre,M',h⟩
   .exact Or.inl ⟨M',hs.own hJ (s:=(XS,M')) hm h⟩
   .exact Or.inr ⟨pre,M',hs.own hJx (s:=(pre,M')) hm h⟩
  exact⟨key,key⟩
 have HK1:=Ab ((Ac.refl [] W).alloc (.cells #[.func (.yield l) #[] #[]] 279));have HB5:=Ab (AE.new W [.func (.yield l) #[] #[]] 279);show Calls prog 176 #[.func (.yield l) #[] #[],.pointer (some ⟨b1,0,none⟩),.pointer (some ⟨b2,0,none⟩),.pointer (some ⟨b3,0,none⟩),.pointer (some ⟨b4,0,none⟩)] W _;refine EB func176 rfl (GJ ?_);rw[hQQ];clear hQQ hB hB1 hB2 hR hJ hJ0 hJx hXS hE hF c1 c3 c4 hkW hl1 hl2 ih hS hS0 he hv hvo hsb hog hj hTH hBT hVL hVj hto hvl gK;simp only[ntmps176,dh,bU,cE,Nat.reduceAdd,Nat.reduceSub,eu,ev,eU,eH,dm,dG];refine wp_seq_k (λK1 hK1=>?_);have HKk:=Ab hK1;clear hK1;go_wp2;refine Aa HKk _ _ ?_;clear HKk K1;change Code.wp _ _ _ _ (W.alloc (.cells [.func (.yield l) #[] #[]].toArray 279));generalize hw1:W.alloc (.cells [.func (.yield l) #[] #[]].toArray 279)=w1 at HK1 HB5⊢;clear hw1;obtain⟨N,hN⟩:∃N,W.heap.size=N:=⟨_,rfl⟩;have HN:=Ab hN;rw[hN]at HB5⊢;clear hN;obtain⟨q2,q1,q3,q4⟩:=Aa HCs w1 (Aa HK1);have HFb:=Ab (Aa HFa w1 (Aa HK1));have Hq2:=Ab q2;clear q2;refine wp_seq_k (λK1 hK1=>?_);have HKk:=Ab hK1;clear hK1;go_wp2_with ((with_reducible show wpList _ _ _ ({dst:=_,op:=Op.load 243 _,type:=_,pos:=_,after:=_,guard:=_}::_) _ _);refine By (by rfl) 243 _ rfl b2 0 (by rfl) E _ (Aa Hq2).range underlying243 rfl (by rw[Aa HL26];exact Tryz.ea) ?_)
 refine(Aa HFb).mono ?_;rintro _ w2 ⟨rfl,k2⟩;have HK2:=Ab ((Aa HK1).trans k2);have HB52:=Ab ((Aa HB5).kept k2 (by simp));have HJ2:Hid (J [] M0 w2):=BC (Aa HJ) (s:=([],M0)) (Aa HJ0) (Aa HK2);clear k2 q1 q3 q4 Hq2 HFb HFa HK1 HB5;cases F with
 |true=>
  have HXe:Hid (XS=[]):=by show _=_;rw[Aa HX,if_pos rfl]
  go_wp2;exact(Aa HLv _ [] w2 ⟨dW,λ_ h=>by simp at h,λ_ h=>by simp at h⟩ (Or.inl ⟨M0,by rw[Aa HXe];exact Aa HJ2⟩)).1
 |false=>
  have HXe:Hid (XS=TH.flatMap BT):=by show _=_;rw[Aa HX,if_neg (by simp)]
  clear HX;go_wp2;refine Aa HKk _ _ ?_;clear HKk K1;obtain⟨r2,r1,r3,r4⟩:=Aa HCs w2 (Aa HK2);clear r2;refine wp_seq_k (λK1 hK1=>?_);have HKk:=Ab hK1;clear hK1;go_wp2;refine Aa HKk _ _ ?_;clear HKk K1;obtain⟨o1,o2⟩:=Aa HSt w2 (Aa HK2);refine wp_seq_k (λK1 hK1=>?_);have HKk:=Ab hK1;clear hK1
  .refine Cp 7 (λwz=>wz.cell? ⟨b1,0,none⟩=some (.pointer (some ⟨sp,0,none⟩))/\wz.cell? ⟨b3,0,none⟩=some (.int .i64 from_)/\wz.cell? ⟨sp,2,none⟩=some (.slice (some ⟨og,0,none⟩) VL ocap)/\wz.cell? ⟨og,from_,none⟩=some (.int .i32 ((j:Int)+65))) (by kernel_rfl) ?_
   have HHS:Hid (w2.drew.cell? ⟨b1,0,none⟩=some (.pointer (some ⟨sp,0,none⟩))/\w2.drew.cell? ⟨b3,0,none⟩=some (.int .i64 from_)/\w2.drew.cell? ⟨sp,2,none⟩=some (.slice (some ⟨og,0,none⟩) VL ocap)/\w2.drew.cell? ⟨og,from_,none⟩=some (.int .i32 ((j:Int)+65))):=⟨r1,r3,o1,o2⟩
   refine Ce.tk (i:=0) (v:=.pointer (some ⟨sp,0,none⟩)) rfl (by kernel_rfl) (Bl HQp) HHS (by rfl) ?_ ?_
   ·(rintro wz ⟨z0,z1,z2,z3⟩;go_simp)
   simp only[Act.put,bH,bI,bJ];refine Ce.tk (i:=1) (v:=.pointer (some ⟨sp,0,none⟩)) rfl (by kernel_rfl) (Bl HQp) HHS (by rfl) ?_ ?_
   ·(rintro wz ⟨z0,z1,z2,z3⟩;go_simp)
   simp only[Act.put,bH,bI,bJ];refine Ce.tk (i:=2) (v:=.pointer (some ⟨sp,2,none⟩)) rfl (by kernel_rfl) (Bl HQp) HHS (by rfl) ?_ ?_
   ·(rintro wz ⟨z0,z1,z2,z3⟩;go_simp)
   simp only[Act.put,bH,bI,bJ];refine Ce.tk (i:=3) (v:=.slice (some ⟨og,0,none⟩) VL ocap) rfl (by kernel_rfl) (Bl HQp) HHS (by rfl) ?_ ?_
   ·(rintro wz ⟨z0,z1,z2,z3⟩;go_simp)
   simp only[Act.put,bH,bI,bJ];refine Ce.tk (i:=4) (v:=.int .i64 from_) rfl (by kernel_rfl) (Bl HQp) HHS (by rfl) ?_ ?_
   ·(rintro wz ⟨z0,z1,z2,z3⟩;go_simp)
   simp only[Act.put,bH,bI,bJ];refine Ce.tk (i:=5) (v:=.pointer (some ⟨og,from_,none⟩)) rfl (by kernel_rfl) (Bl HQp) HHS (by rfl) ?_ ?_
   ·(rintro wz ⟨z0,z1,z2,z3⟩;go_simp)
   simp only[Act.put,bH,bI,bJ];refine Ce.tk (i:=6) (v:=.int .i32 ((j:Int)+65)) rfl (by kernel_rfl) (Bl HQp) HHS (by rfl) ?_ ?_
   ·(rintro wz ⟨z0,z1,z2,z3⟩;go_simp)
   simp only[Act.put,bH,bI,bJ];refine Ce.one (i:=7) (by kernel_rfl) rfl (λK hK=>?_)
   go_simp
   refine hK.out _ _ (λh=>absurd rfl h) ?_;clear hK K;refine Ce.done (by kernel_rfl) ?_ _
   try simp only[Act.put,bH,bI,bJ]
   refine Aa HKk _ _ ?_;clear HKk K1 HHS r1 r3 r4 o1 o2;have HK3:=Ab ((Aa HK2).drew);have HJ3:Hid (J [] M0 w2.drew):=BC (Aa HJ) (s:=([],M0)) (Aa HJ2) (Ac.refl [] w2).drew;have HB53:=Ab ((Aa HB52).drew);generalize w2.drew=w2d at HK3 HJ3 HB53⊢;clear HK2 HJ2 HB52;obtain⟨r2,r1,r3,r4⟩:=Aa HCs w2d (Aa HK3);have Hr2:=Ab r2;have HAb:=Ab (Aa HAl w2d (Aa HK3));clear r2 HAl;go_wp2_with ((with_reducible show wpList _ _ _ ({dst:=_,op:=Op.load 243 _,type:=_,pos:=_,after:=_,guard:=_}::_) _ _);refine By (by rfl) 243 _ rfl b2 0 (by rfl) E _ (Aa Hr2).range underlying243 rfl (by rw[Aa HL26];exact Tryz.ea) ?_)
   refine(Aa HAb).mono ?_;rintro _ w3 ⟨ad,cp,rfl,hrow,k3⟩;have HK4:=Ab ((Aa HK3).trans k3);have HJ4:Hid (J [] M0 w3):=BC (Aa HJ) (s:=([],M0)) (Aa HJ3) k3;have HB54:=Ab ((Aa HB53).kept k3 (by simp));have HRow:=Ab (Ak hrow (show W.heap.size<=w2d.heap.size from(Aa HK3).size))
   obtain⟨L,hL⟩:∃L,(TH.map Aw).length=L:=⟨_,rfl⟩;(have HL:Hid (TH.length=L):=by show _=_;rw[<-hL,bX]);rw[hL]at HRow⊢;clear hrow k3 hL HAb HK3 HJ3 HB53 r1 r3 r4 Hr2;have HOw:Hid (∀wz,Ac M0 w3 wz->AE wz b2 E 243/\AE wz b1 [.pointer (some ⟨sp,0,none⟩)] 233/\AE wz b3 [.int .i64 from_] 3/\AE wz b4 [.int .i64 gR] 3/\AE wz N [.func (.yield l) #[] #[]] 279/\wz.ownsRow N 170 1 (.slice ad L cp) L ((TH.map Aw).flatMap Ae)):=by
    intro wz hk;have hb:=(Aa HB).grow (Aa HK4);have hb2:=hb.bound;rw[Aa HEe]at hb2;have hap:=Aa HAp;have hn:=Aa HN;refine⟨hb2.kept hk (λh=>(hap _ h).2.2.1 rfl),hb.s.kept hk (λh=>(hap _ h).2.1 rfl),hb.fr.kept hk (λh=>(hap _ h).2.2.2.1 rfl),hb.gR.kept hk (λh=>(hap _ h).2.2.2.2 rfl),(Aa HB54).kept hk (λh=>by have:=(hap _ h).1;omega),?_⟩;have hr:=Aa HRow;rw[hn]at hr;exact Al hr hk (λi hi hm=>by have h1:=(hr.lt i hi).1;have h2:=(hap i hm).1;omega)
   (go_wp2_with fail);refine wp_loop_ghost_k (λgk a wr=>∃(k:Nat) (M ds:List Nat) (y7 y8 y9 y10 y11 y12 y13 y14 y15 y16 y17 y18 y19 y20 y21 y22 y23 y24 y25 y26 y27 y28 y32 y33 y34 y35 y36 y37 y38 y39 y40 y41 y42 y43 y44 y45 y46 y47 y48 y49:Value),a=⟨#[.func (.yield l) #[] #[],.pointer (some ⟨b1,0,none⟩),.pointer (some ⟨b2,0,none⟩),.pointer (some ⟨b3,0,none⟩),.pointer (some ⟨b4,0,none⟩),.pointer (some ⟨N,0,none⟩),.int .i32 ((j:Int)+65),y7,y8,y9,y10,y11,y12,y13,y14,y15,y16,y17,y18,y19,y20,y21,y22,y23,y24,y25,y26,y27,y28,.slice ad L cp,.int .i64 L,.int .i64 k,y32,y33,y34,y35,y36,y37,y38,y39,y40,y41,y42,y43,y44,y45,y46,y47,y48,y49],ds.map DY⟩/\k<=L/\gk=L-k/\Hid (J ((TH.take k).flatMap BT) M wr)/\Hid (U4 M0 w3 M wr)/\Hid (C1 N ds wr/\∀D∈ds,D∉M)) L ?start ?round
   case start=>
    refine⟨0,M0,[],_,_,_,_,_,_,_,_,_,_,_,_,_,_,_,_,_,_,_,_,_,_,_,_,_,_,_,_,_,_,_,_,_,_,_,_,_,_,_,_,rfl,by omega,rfl,by rw[fN];exact Aa HJ4,⟨Ac.refl _ _,λq hq=>⟨Or.inl hq,?_⟩⟩,⟨⟨dW,λ_ h=>by simp at h,λ_ h=>by simp at h⟩,λ_ h=>by simp at h⟩⟩;have h1:=(Aa HAp q hq).1;have h2:=(Aa HK4).size;omega
   case round=>
    rintro gk a wr ⟨k,M,ds,y7,y8,y9,y10,y11,y12,y13,y14,y15,y16,y17,y18,y19,y20,y21,y22,y23,y24,y25,y26,y27,y28,y32,y33,y34,y35,y36,y37,y38,y39,y40,y41,y42,y43,y44,y45,y46,y47,y48,y49,rfl,hk,hgk,HJk,HOk,HMk⟩ JJ KK hJJ hKK;have HG:=Ab hgk;have HJJ:=Ab hJJ;have HKK:=Ab hKK;clear hgk hJJ hKK HJ4;by_cases hkl:k<L
    .obtain⟨s2,s1,s3,s4,s5,s6⟩:=Aa HOw wr (Aa HOk).kept;(have hTk:k<TH.length:=by have:=Aa HL;omega);obtain⟨g,cap,hsl,hcell⟩:=FE (l:=TH.map Aw) (by rw[bX,Aa HL];exact s6) k (by rw[bX];exact hTk);rw[bX,Aa HL]at hsl;simp only[bK]at hsl;obtain⟨rfl,-,rfl⟩:=hsl;rw[List.getElem_map]at hcell;obtain⟨t,ht⟩:∃t,TH[k]=t:=⟨_,rfl⟩;rw[ht]at hcell;(have htc:AX t:=by rw[<-ht];exact Aa HCa _ (bL hTk));obtain⟨het,hEt⟩:=Aa HEt t htc;(have HXk:Hid (XS=(TH.take k).flatMap BT++(BT t++(TH.drop (k+1)).flatMap BT)):=by show _=_;rw[Aa HXe,YK BT TH k hTk,ht]);(have HTk:Hid ((TH.take (k+1)).flatMap BT=(TH.take k).flatMap BT++BT t):=by show _=_;rw[UQ BT TH k hTk,ht]);have HEt2:=Ab hEt;have HeT:=Ab het;(have hr0:(0:Int)<=(k:Int):=by omega);(have hr1:(k:Int)<(L:Int):=by omega);have hs2:=Ab s2;have c1:=s1.cell 0;have c3:=s3.cell 0;have c4:=s4.cell 0;simp at c1 c3 c4;have HS2:Hid (∀wz,Ac [] wr wz->wz.rangeAt b2 0 E/\Ac [] wr wz/\wz.cell? ⟨b1,0,none⟩=some (.pointer (some ⟨sp,0,none⟩))/\wz.cell? ⟨b3,0,none⟩=some (.int .i64 from_)/\wz.cell? ⟨b4,0,none⟩=some (.int .i64 gR)):=λwz hk=>⟨(s2.kept hk (by simp)).range,hk,hk.cellAt c1,hk.cellAt c3,hk.cellAt c4⟩
     (have HWi:Hid (∀wz,Calls prog 179 #[.agg E.toArray,.int .i32 ((j:Int)+65),.string (Aw t)] wz λr w'=>r=.returned (.agg (E.set j (.string (Aw t))).toArray)/\Ac [] wz w'):=λwz=>WM E j (Aw t) wz hl26 (Aa HVj).2 hc (Aa HO26));have HBw:Hid (∀wz,Calls prog 141 #[.pointer (some ⟨sp,0,none⟩),.int .i64 ((from_:Int)+1),.int .i64 gR,.agg (E.set j (.string (Aw t))).toArray] wz λr w'=>∃b1 b2 b3 b4,r=.returned (.func (.func 176) #[] #[.pointer (some ⟨b1,0,none⟩),.pointer (some ⟨b2,0,none⟩),.pointer (some ⟨b3,0,none⟩),.pointer (some ⟨b4,0,none⟩)])/\
       AE w' b1 [.pointer (some ⟨sp,0,none⟩)] 233/\AE w' b2 (E.set j (.string (Aw t))) 243/\AE w' b3 [.int .i64 ((from_+1:Nat):Int)] 3/\AE w' b4 [.int .i64 gR] 3/\(wz.heap.size<=b1/\wz.heap.size<=b2/\wz.heap.size<=b3/\wz.heap.size<=b4)/\Ac [] wz w'):=λwz=>by
      have h:=G1 sp (from_+1) gR (Ai (Bf (e.set j t))) wz (Bo _) (by unfold Ai;rw[bX];exact GM het);rw[hEt]at h;rw[show((from_:Int)+1)=((from_+1:Nat):Int) by omega];exact h
     clear ht htc het hEt s1 s3 s4 s5 s6 s2 c1 c3 c4;generalize Aw t=tb at hcell HWi HBw HEt2;refine wp_seq_k (λK1 hK1=>?_);have HKk:=Ab hK1;clear hK1;go_wp2;refine Aa HKk _ _ ?_;clear HKk K1;refine wp_seq_k (λK1 hK1=>?_);have HKk:=Ab hK1;clear hK1;go_wp2;refine Aa HKk _ _ ?_;clear HKk K1;refine wp_seq_k (λK5 hK5=>?_);have HK5:=Ab hK5;clear hK5;refine wp_block ?_;refine wp_seq_k (λK1 hK1=>?_);have HKk:=Ab hK1;clear hK1;go_wp2;refine Aa HKk _ _ ?_;clear HKk K1 hcell;refine wp_seq_k (λK6 hK6=>?_);have HK6:=Ab hK6;clear hK6;refine Cp 9 (λwz=>wz.rangeAt b2 0 E/\Ac [] wr wz/\wz.cell? ⟨b1,0,none⟩=some (.pointer (some ⟨sp,0,none⟩))/\wz.cell? ⟨b3,0,none⟩=some (.int .i64 from_)/\wz.cell? ⟨b4,0,none⟩=some (.int .i64 gR)) (by kernel_rfl) ?_
     have HHS:=Ab (Aa HS2 wr.drew (Ac.refl [] wr).drew);refine Ce.tkH (i:=0) (v:=.pointer (some ⟨sp,0,none⟩)) rfl (by kernel_rfl) (Bl HQp) HHS (by rfl) ?_ ?_
     ·(rintro wz ⟨z0,z1,z2,z3,z4⟩;go_simp)
     simp only[Act.put,bH,bI,bJ];refine Ce.tkH (i:=1) (v:=.int .i64 from_) rfl (by kernel_rfl) (Bl HQp) HHS (by rfl) ?_ ?_
     ·(rintro wz ⟨z0,z1,z2,z3,z4⟩;go_simp)
     simp only[Act.put,bH,bI,bJ];refine Ce.tkH (i:=2) (v:=.int .i64 ((from_:Int)+1)) rfl (by kernel_rfl) (Bl HQp) HHS (by rfl) ?_ ?_
     ·(rintro wz ⟨z0,z1,z2,z3,z4⟩;go_simp)
     simp only[Act.put,bH,bI,bJ];refine Ce.tkH (i:=3) (v:=.int .i64 gR) rfl (by kernel_rfl) (Bl HQp) HHS (by rfl) ?_ ?_
     ·(rintro wz ⟨z0,z1,z2,z3,z4⟩;go_simp)
     simp only[Act.put,bH,bI,bJ];refine Ce.zH (i:=4) (v:=.agg E.toArray) rfl (by kernel_rfl) (by kernel_rfl) (by kernel_rfl) (by decide) (λ_ _ _ h=>absurd h (Aa HQp _ _ _)) (Aa HHS) (yieldsIf_load_mid (by rfl) 243 _ rfl b2 0 (by rfl) E _ (λwz hz=>hz.1) underlying243 rfl (by rw[Aa HL26];exact Tryz.ea)) ?_;simp only[Act.put,bH,bI,bJ];refine Ce.tkH (i:=5) (v:=.int .i32 ((j:Int)+65)) rfl (by kernel_rfl) (Bl HQp) HHS (by rfl) ?_ ?_
     ·(rintro wz ⟨z0,z1,z2,z3,z4⟩;go_simp)
     simp only[Act.put,bH,bI,bJ];refine Ce.tkH (i:=6) (v:=.string tb) rfl (by kernel_rfl) (Bl HQp) HHS (by rfl) ?_ ?_
     ·(rintro wz ⟨z0,z1,z2,z3,z4⟩;go_simp)
     simp only[Act.put,bH,bI,bJ];refine Ce.one (i:=7) (by kernel_rfl) rfl (λK hK=>?_)
     go_simp
     refine(Aa HWi _).mono ?_;rintro _ w4 ⟨rfl,k4⟩;have hk4:Ac [] wr w4:=(Ac.refl [] wr).drew.trans k4;refine hK.out _ _ (λ_=>Aa HS2 w4 hk4) ?_;clear hK K;have HK4':=Ab hk4;clear k4 hk4
     try simp only[Act.put,bH,bI,bJ]
     refine Ce.one (i:=8) (by kernel_rfl) rfl (λK hK=>?_)
     go_simp
     refine(Aa HBw _).mono ?_;rintro _ w5 ⟨d1,d2,d3,d4,rfl,n1,n2,n3,n4,hds,k5⟩;have hk5:Ac [] wr w5:=(Aa HK4').trans k5;refine hK.out _ _ (λ_=>Aa HS2 w5 hk5) ?_;clear hK K;refine Ce.done (by kernel_rfl) ?_ _
     try simp only[Act.put,bH,bI,bJ]
     refine Aa HK6 _ _ ?_;clear HK6 K6 HHS HWi HBw HS2;(have hMw:∀q∈M,q<wr.heap.size:=λq hq=>((Aa HOk).mem q hq).2);have hl5:=Aa HLl;have hsz5:=k5.size;have hsz4:=(Aa HK4').size;have hszr:=(Aa HOk).kept.size;have hszw:=(Aa HK4).size;have hbt:Ry w0 M1 sp d1 d2 d3 d4 (from_+1) gR (e.set j t) (l::M) w5:=by
      refine⟨?_,n1,by rw[Aa HEt2];exact n2,n3,n4,λq hq=>?_⟩
      .exact((Aa HB).kept.trans ((Aa HK4).mono (by simp))).trans' ((Aa HOk).kept.trans (hk5.mono (by simp))) (λi hi=>((Aa HB).apart i hi).1)
      .have hq2:(q∈M1\/w0.heap.size<=q)/\q<wr.heap.size:=by
        have h0:=(Aa HB).kept.size;rcases bS.1 hq with rfl|hq
        .have h1:=hl5.2.2.2.kept.size;exact⟨Or.inr (by omega),by omega⟩
        .refine⟨?_,hMw q hq⟩;rcases((Aa HOk).mem q hq).1 with h|h
         .exact((Aa HB).apart q h).1
         .exact Or.inr (by omega)
       obtain⟨g1,g2,g3,g4⟩:=hds;exact⟨hq2.1,by omega,by omega,by omega,by omega,by omega⟩
     have gX:=Aa HIh (e.set j t) d1 d2 d3 d4 w5 (l::M) (Aa HeT) hbt;rw[Aa HBT t]at gX;have hJ5:J ((TH.take k).flatMap BT) M w5:=BC (Aa HJ) (s:=((TH.take k).flatMap BT,M)) (Aa HJk) hk5;have HO5:Hid (U4 M0 w3 M w5):=(Aa HOk).step (hk5.mono (by simp)) (λq hq=>⟨Or.inl hq,by have:=hMw q hq;omega⟩);have HM5:Hid (C1 N ds w5/\∀D∈ds,D∉M):=⟨Kw (Aa HMk).1 hk5 (λ_ _ h=>by simp at h),(Aa HMk).2⟩;(have hB5s:W.heap.size<=w5.heap.size:=by omega);refine wp_block ?_;refine Hp (T:=243) (q:=9) rfl (enters_of func176 (by kernel_rfl) rfl) gX (λq hq=>by
      rcases bS.1 hq with rfl|hq
      .omega
      .have:=hMw q hq;omega) (Tq J l ((TH.take k).flatMap BT) M w5) (λc _ _ W'=>TB Jx l M w5 c W') (Tq.own (Aa HJ) hB5s) (λc=>TB.own (Aa HJx) hB5s c) ⟨M,rfl,by rw[cK];exact hJ5,Ac.refl _ _,λq hq=>⟨Or.inl hq,by have:=hMw q hq;omega⟩⟩ ?rassign ?rbody ?rdone ?rstop
     case rassign=>
      intro l' x W' K hx HK;(have hxl:(Ai (Bf x)).length=26:=by unfold Ai Bf;rw[bX,bX];exact Aa HLx t x hx);have HXo:Hid (∀u∈Ai (Bf x),u.oneCell'=true):=by
       intro u hu;unfold Ai at hu;obtain⟨y,_,rfl⟩:=bV.1 hu;rfl
      obtain⟨EX,hEX⟩:∃EX,Ai (Bf x)=EX:=⟨_,rfl⟩;rw[hEX]at hxl HXo HK⊢;have HXl:=Ab hxl;(have HXa:Hid (EX.toArray.size=26):=by show _=_;simp[hxl]);clear hx hEX hxl;simp only[bH,bI,bJ]at HK⊢;refine AZ (by rfl) (If Gx) ?_;go_wp2_with ((with_reducible show wpList _ _ _ ({dst:=_,op:=Op.store 243 _ _,type:=_,pos:=_,after:=_,guard:=_}::_) _ _);refine dP rfl 243 _ _ rfl W'.heap.size 0 EX.toArray (by rfl) (by rfl) ?_ ?_ ?_ ?_)
      .have h:=(AE.new W' (List.replicate 26 (Value.string ⟨#[]⟩)) 243).there;simp only[dD]at h;rw[Aa HXa];exact h
      .rw[Aa HXa];exact Tryz.ea
      .exact dq (Aa HXo)
      .refine Aa HK _ (((Ac.refl [] W').alloc (.cells (List.replicate 26 (Value.string ⟨#[]⟩)).toArray 243)).ek (b:=W'.heap.size) (Or.inr (bZ _)) EX 0) ?_;exact(AE.new W' (List.replicate 26 (Value.string ⟨#[]⟩)) 243).gH EX (by rw[Aa HXl];simp)
     case rbody=>
      intro l' Bx pre x rest' M' W' hxs hi hM' hBx hblk;obtain⟨Mo,rfl,hj6,ho6⟩:=hi.at_;have hyB:AE W' N [.func (.yield l) #[] #[]] 279:=by
       have h5:=(Aa HOw w5 (Aa HO5).kept).2.2.2.2.1;refine h5.kept ho6.kept (λh=>?_);rcases((Aa HOk).mem N h).1 with h|h
       .have:=(Aa HAp N h).1;have:=Aa HN;omega
       .have h7:=(Aa HB54).lt;omega
      have HY:=Ab (Aa HRo ((TH.take k).flatMap BT++pre) x (rest'++(TH.drop (k+1)).flatMap BT) Mo W' (by rw[Aa HXk,hxs];simp) hj6);have cy:=hyB.cell 0;simp at cy;(have hxl:(Ai (Bf x)).length=26:=by unfold Ai Bf;rw[bX,bX];exact Aa HLx t x (by rw[hxs];simp));obtain⟨EX,hEX⟩:∃EX,Ai (Bf x)=EX:=⟨_,rfl⟩;simp only[hEX]at hxl hblk HY⊢;have HBl:=Ab hblk;have HXl:=Ab hxl;have HO6:=Ab ho6;clear hi hblk hxl hyB hj6 ho6 hM' hEX hxs;simp only[bH,bI,bJ];refine wpIn_block ?_;refine dM (λK3 hK3=>?_);have HK3':=Ab hK3;clear hK3;refine Nu (n:=0) 2 (by rfl) (by rintro ⟨_,_,h⟩;exact h) (λK2 HK2'=>?_);simp only[eG,fN];go_wp2_with ((with_reducible show wpList _ _ _ ({dst:=_,op:=Op.load 243 _,type:=_,pos:=_,after:=_,guard:=_}::_) _ _);refine By (by rfl) 243 _ rfl Bx 0 (by rfl) EX _ (Aa HBl).range underlying243 rfl (by rw[Aa HXl];exact Tryz.ea) ?_)
      refine Aa HK2' _ _ ?_;clear HK2' K2;simp only[eZ,ft];refine KB (F:=Fence.wide.inRound l') (λ_=>trivial) rfl rfl (l:=l) (args:=#[.agg EX.toArray]) (by rfl) (by first|(simp[go_sem,Oper.semAt];done)|(simp[go_sem,Oper.semAt,execOp,resolve,invoke];done)) (Aa HY) ?_;rintro r w6 (⟨rfl,M6,hj6,hk6,hM6⟩|⟨rfl,M6,hj6,hk6⟩)
      .refine⟨_,rfl,Jc (by rfl) (by rintro ⟨_,_,h⟩;exact h) ?_⟩;simp only[Act.put,bH,bI,bJ];have HP:Hid (M5 (Tq J l ((TH.take k).flatMap BT) M w5) (λc _ _ W'=>TB Jx l M w5 c W') (pre++[x]) (l::Mo) W' .normal ⟨#[],[]⟩ w6):=by
        (have hll:l<w6.heap.size:=by have:=hk6.size;have:=(Aa HO6).kept.size;omega);refine⟨hk6.mono (λi hi=>cF _ hi),l::M6,⟨M6,rfl,by rw[<-dd];exact hj6,(Aa HO6).step hk6 hM6⟩,λq hq=>?_⟩;rcases bS.1 hq with rfl|hq
        .exact⟨Or.inl (dg ..),hll⟩
        .refine⟨?_,(hM6 q hq).2⟩;rcases(hM6 q hq).1 with h|h
         .exact Or.inl (cF _ h)
         .exact Or.inr h
       clear hj6 hk6 hM6 HY;go_wp2;refine Aa HK3' _ _ ?_;clear HK3' K3;refine eV rfl (wpIn_skip ?_);exact Aa HP
      .refine⟨_,rfl,Jc (by rfl) (by rintro ⟨_,_,h⟩;exact h) ?_⟩;simp only[Act.put,bH,bI,bJ];have HP:Hid (M5 (Tq J l ((TH.take k).flatMap BT) M w5) (λc _ _ W'=>TB Jx l M w5 c W') (pre++[x]) (l::Mo) W' .ret ⟨#[],[]⟩ w6):=by
        refine⟨hk6,M6,rfl,⟨_,M6,hj6⟩,?_⟩;refine((Aa HO6).kept.mono (N:=l::M) (λi hi=>cF _ hi)).trans' hk6 (λi hi=>?_);rcases bS.1 hi with rfl|hi
        .exact Or.inl (dg ..)
        .exact(((Aa HO6).mem i hi).1).imp (λh=>cF _ h) id
       clear hj6 hk6 HY;go_wp2;refine Aa HK3' _ _ ?_;clear HK3' K3;refine ff rfl (wpIn_ret ?_);exact Aa HP
     case rdone=>
      intro D M' W' hD hi hd hDM;obtain⟨Mo,rfl,hj6,ho6⟩:=hi.at_;have HO6:Hid (U4 M0 w3 Mo W'):=(Aa HO5).step ho6.kept ho6.mem;(have hDl:=λq (hq:q∈Mo)=>(ho6.mem q hq).1);have HM6:Hid (C1 N (D::ds) W'/\∀d∈D::ds,d∉Mo):=by
       have hm:=Kw (Aa HM5).1 ho6.kept (Aa HM5).2;have gK:=S4 (Aa HM5).1;refine⟨⟨dN.2 ⟨λh=>by have:=gK D h;omega,hm.nodup⟩,λd hd'=>?_,λd hd'=>?_⟩,λd hd' hm'=>?_⟩
       .rcases bS.1 hd' with rfl|hd'
        .have:=Aa HN;omega
        .exact hm.ge d hd'
       .rcases bS.1 hd' with rfl|hd'
        .exact hd
        .exact hm.at_ d hd'
       .rcases bS.1 hd' with rfl|hd'
        .exact hDM _ (cF _ hm') rfl
        .rcases(ho6.mem d hm').1 with h|h
         .exact(Aa HM5).2 d hd' h
         .have:=gK d hd';omega
      (have HJ6:Hid (J ((TH.take (k+1)).flatMap BT) Mo W'):=by rw[Aa HTk];exact hj6);clear hi hj6 ho6 hDl;refine Aa HK5 _ _ ?_;clear HK5;go_wp2;refine Aa HKK _ _ (Handed.intro (L-(k+1)) (by have:=Aa HG;omega) (Aa HJJ _ _ _ ?_));have hcast:wrap64 ((k:Int)+1)=((k+1:Nat):Int):=ZB k (by have:=Aa HTl;have:=Aa HL;omega);rw[hcast];exact⟨k+1,Mo,D::ds,_,_,_,_,_,_,_,_,_,_,_,_,_,_,_,_,_,_,_,_,_,_,_,_,_,_,_,_,_,_,_,_,_,_,_,_,_,_,_,_,rfl,hkl,rfl,HJ6,HO6,HM6⟩
     case rstop=>
      intro D c pre M' W' hD hx hd;obtain rfl:=hx.ret;obtain⟨pre',Mo,hjx⟩:=hx.at_;have gK:=S4 (Aa HM5).1;have hm:C1 W.heap.size (D::ds) W':=by
       have hm:=Kw (Aa HM5).1 hx.kept (λd hd' h=>by
        rcases bS.1 h with rfl|h
        .have:=(Aa HM5).1.ge _ hd';have:=Aa HN;omega
        .exact(Aa HM5).2 d hd' h)
       refine⟨dN.2 ⟨λh=>by have:=gK D h;omega,hm.nodup⟩,λd hd'=>?_,λd hd'=>?_⟩
       .rcases bS.1 hd' with rfl|hd'
        .omega
        .have:=hm.ge d hd';have:=Aa HN;omega
       .rcases bS.1 hd' with rfl|hd'
        .exact hd
        .exact hm.at_ d hd'
      refine wp_ret ?_;exact(Aa HLv _ (D::ds) W' hm (Or.inr ⟨pre',Mo,hjx⟩)).1
    ·(have hr1:¬(k:Int)<(L:Int):=by omega);have HJe:Hid (J XS M wr):=by
      have h:=Aa HJk;rw[bP (by have:=Aa HL;omega),<-Aa HXe]at h;exact h
     go_wp2;exact(Aa HLv _ ds wr (by rw[Aa HN];exact(Aa HMk).1) (Or.inl ⟨M,Aa HJe⟩)).2
