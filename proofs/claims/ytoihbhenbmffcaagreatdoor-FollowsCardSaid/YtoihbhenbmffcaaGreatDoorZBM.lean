import Derived.Test.YtoihbhenbmffcaaGreatDoorZBL
set_option linter.unusedVariables false
set_option linter.unusedSimpArgs false
set_option maxHeartbeats 6400000
namespace Go.Proofs.YtoihbhenbmffcaaGreatDoor
open Go.RowKit
open Go.Proofs.Tryz
theorem Ko(m:Nat)(k:List By)(s:List Aj)(f:List UInt8)(w0:World)(q:Zh w0 m k s f)(b:Nat)(y:b<=f.length)(j:List UInt8):∀(a:Nat) (e:List cL) (c g d h:Nat) (w:World) (i:List Nat),C3 e->a<=b->(f.take b).drop a=j->KI w0 m c g d h a b e i w->
  Mi prog 176 #[.pointer (some ⟨c,0,none⟩), .pointer (some ⟨g,0,none⟩), .pointer (some ⟨d,0,none⟩), .pointer (some ⟨h,0,none⟩)] (λx=>#[.agg (Ah (Bw x)).toArray]) (AK (KA k s) k s j e) i w:=by
 induction j with
 |nil=>
  intro a e c g d h w i n H l o
  have E:b-a=0:=by
   have:=congrArg List.length l;rw[aL,aK]at this;simp at this;omega
  obtain rfl:a=b:=by omega
  exact Q4 m k s f w0 q _ a e c g d h w i n o
 |cons v j ih=>
  intro a e c g d h w i n H l o
  have E:b-a=j.length+1:=by
   have:=congrArg List.length l;rw[aL,aK]at this;simp at this;omega
  have r:a<b:=by omega
  have G:a<(f.take b).length:=by rw[aK];omega
  rw[aC G]at l;obtain⟨p,u⟩:=List.cons.inj l;rw[di]at p;exact Qk m k s f w0 q v j a b e c g d h w i n r y p o (λz A C F I t M B D=>ih (a+1) z A C F I t M B (by omega) u D)
theorem Wi{P:Program}{fn:Func}{p q:Tmp}{a e:TypeId}(h:fn.results=#[.cell p a, .cell q e]){tmps:Array Value}{w:World}{b:Nat}{cs:List Value}{t:TypeId}{d:TypeDesc}
  (g:tmps.getD p undef= .pointer (some ⟨b,0,none⟩)) (n:Aw w b cs t) (m:P.underlying a=some d) (f:d.isRow=true) (o:(P.info? a).map (·.size)=some cs.length)
  {c:Nat} {v:Value} (k:tmps.getD q undef= .pointer (some ⟨c,0,none⟩)) (i:(loadVar e ⟨c,0,none⟩).run P w= .ok v w):
  (results fn tmps).run P w= .ok (.tuple #[.agg cs.toArray,v]) w:=by
 have l:=run_loadVar_mid (P:=P) w b 0 a cs d n.range m f o;have j:tmps[p]?.getD undef= .pointer (some ⟨b,0,none⟩):=by simpa using g
 have r:tmps[q]?.getD undef= .pointer (some ⟨c,0,none⟩):=by simpa using k
 simp only[results,h];simp[d9,Result.andThen,j,l,asAddr,r,i]
structure R4(w:World)(N:Nat)(B:Bool)(X:List Value)(W:World):Prop where
 kept:Ac [] w W
 b1:Aw W (N+1) X 243
 b2:Aw W (N+2) [.bool B] 4
theorem R4.own{w:World}{N c:Nat}{B:Bool}{X:List Value}(h:w.heap.size<=c){β:Type}(A:β->Prop):OwnFrom c (fun(s:β) W=>A s/\R4 w N B X W):=
 CR (λs W d M a k b=>⟨a.1,Ge a.2.kept k b h,a.2.b1.kept k (Do b a.2.b1),a.2.b2.kept k (Do b a.2.b2)⟩)
theorem Ez(x:List cL)(h:x.length=26):(Ah (Bw x)).length=26/\∀u∈Ah (Bw x),u.oneCell'=true:=by
 refine⟨by unfold Ah Bw;rw[aD,aD];exact h,λu a=>?_⟩;unfold Ah at a;obtain⟨y,_,rfl⟩:=az.1 a;rfl
theorem LX:Ah (Bw Dr)=List.replicate 26 (Value.string ⟨#[]⟩):=by
 unfold Ah Bw Dr;rw[List.map_replicate,List.map_replicate,M3];rfl
theorem We{w:World}{b:Nat}{B:Bool}(h:Aw w b [.bool B] 4):(loadVar 4 ⟨b,0,none⟩).run prog w= .ok (.bool B) w:=by
 have c:=h.cell 0;simp at c;simp[go_sem,c,underlying4]
set_option maxRecDepth 100000
theorem V5(Q:Nat)(m:List By)(s:List Aj)(vs:List UInt8)(L G:Nat)(I:List UInt8)(e:List cL)(w:World)(hS:Zh w Q m s vs)(he:C3 e)(K7:L<=G)(HM:G<=vs.length)(hr:(vs.take G).drop L=I):
  Calls prog 197 #[.pointer (some ⟨Q,0,none⟩), .int .i64 L, .int .i64 G, .agg (Ah (Bw e)).toArray] w λr v=>∃(x:List cL) (B:Bool),r= .returned (.tuple #[.agg (Ah (Bw x)).toArray, .bool B])/\x.length=26/\B= !(AK (KA m s) m s I e).isEmpty/\(B=true->x∈AK (KA m s) m s I e)/\Ac [] w v:=by
 have HG:Hid (∀J t H P f M0,KI w Q J t H P L G e M0 f->Mi prog 176 #[.pointer (some ⟨J,0,none⟩), .pointer (some ⟨t,0,none⟩), .pointer (some ⟨H,0,none⟩), .pointer (some ⟨P,0,none⟩)] (λx=>#[.agg (Ah (Bw x)).toArray]) (AK (KA m s) m s I e) M0 f):=λJ t H P f M0 hB=>Ko Q m s vs w hS G HM I L e J t H P f M0 he K7 hr hB
 have F:Hid (∀x∈AK (KA m s) m s I e,x.length=26):=IY I e he.len;obtain⟨C,HY⟩:∃C,AK (KA m s) m s I e=C:=⟨_,rfl⟩;rw[HY]at HG F⊢;have hc:=Bl (Bw e);obtain⟨HF,Nx⟩:=Ez e he.len;have HH:Hid (∀f,Calls prog 141 #[.pointer (some ⟨Q,0,none⟩), .int .i64 L, .int .i64 G, .agg (Ah (Bw e)).toArray] f λr v=>∃J t H P,r= .returned (.func (.func 176) #[] #[.pointer (some ⟨J,0,none⟩), .pointer (some ⟨t,0,none⟩), .pointer (some ⟨H,0,none⟩), .pointer (some ⟨P,0,none⟩)])/\
   Aw v J [.pointer (some ⟨Q,0,none⟩)] 233/\Aw v t (Ah (Bw e)) 243/\Aw v H [.int .i64 L] 3/\Aw v P [.int .i64 G] 3/\(f.heap.size<=J/\f.heap.size<=t/\f.heap.size<=H/\f.heap.size<=P)/\Ac [] f v):=λf=>IV Q L G _ f hc HF
 have HV:=Ab HF;obtain⟨E,hE⟩:∃E,Ah (Bw e)=E:=⟨_,rfl⟩;have M6:=Ab hE;rw[hE]at hc HF HV HH⊢;obtain⟨N,hN⟩:∃N,w.heap.size=N:=⟨_,rfl⟩;have HN:=Ab hN;obtain⟨w1,S⟩:∃w1,((w.alloc (.cells E.toArray 243)).alloc (.cells (List.replicate 26 (Value.string ⟨#[]⟩)).toArray 243)).alloc (.cells #[.bool false] 4)=w1:=⟨_,rfl⟩;have Ix:=Ab S;have H3:Hid (Aw w1 N E 243):=by
  have h:=((Aw.new w E 243).alloc (.cells (List.replicate 26 (Value.string ⟨#[]⟩)).toArray 243)).alloc (.cells #[.bool false] 4);rw[S,hN]at h;exact h
 have Ax:Hid (R4 w N false (List.replicate 26 (Value.string ⟨#[]⟩)) w1):=by
  refine⟨?_,?_,?_⟩
  ·rw[<-S];exact(((Ac.refl [] w).alloc _).alloc _).alloc _
  ·have h:=(Aw.new (w.alloc (.cells E.toArray 243)) (List.replicate 26 (Value.string ⟨#[]⟩)) 243).alloc (.cells #[.bool false] 4);rw[S,aP,hN]at h;exact h
  ·have h:=Aw.new ((w.alloc (.cells E.toArray 243)).alloc (.cells (List.replicate 26 (Value.string ⟨#[]⟩)).toArray 243)) [.bool false] 4;rw[aP,aP,hN]at h;rw[<-S];exact h
 clear HY hE hS he K7 HM hr Nx S hN;obtain⟨QQ,HJ⟩:∃QQ,NK (bodyPostM Fence.wide 0 prog Tryz.f197 λr v=>∃(x:List cL) (B:Bool),r= .returned (.tuple #[.agg (Ah (Bw x)).toArray, .bool B])/\x.length=26/\B= !C.isEmpty/\(B=true->x∈C)/\Ac [] w v)=QQ:=⟨_,rfl⟩;have HX:Hid (∀(EY:Array Value) (D:Nat) (f:World) (x:List cL) (B:Bool),EY.getD 8 undef= .pointer (some ⟨N+1,0,none⟩)->EY.getD 9 undef= .pointer (some ⟨N+2,0,none⟩)->w.heap.size<=D->f.heap[D]?=some (.deferred (some []))->R4 w N B (Ah (Bw x)) f->x.length=26->B= !C.isEmpty->(B=true->x∈C)->QQ .ret ⟨EY,[Gk D]⟩ f):=by
  intro EY D f x B h8 h9 hD X i n hB hm;rw[<-HJ];have H0:D3 w.heap.size [D] f:=⟨by simp,λd CL=>by simp only[ae]at CL;omega,λd CL=>by simp only[ae]at CL;rw[CL];exact X⟩;refine EH [D] f H0 (λv hs=>?_);have HA:=(hs.own (R4.own (au _) (λ_:Unit=>True)) (s:=()) H0 ⟨trivial,i⟩).2;exact⟨_,Wi rfl h8 HA.b1 underlying243 rfl (by rw[(Ez x n).1];exact Tryz.size243) h9 (We HA.b2),x,B,rfl,n,hB,hm,HA.kept⟩
 refine GE func197 rfl (Kd ?_);rw[HJ];clear HJ;simp only[ntmps197,bo,ak,aH,Nat.reduceAdd,Nat.reduceSub,dD,dE,dV,dI,bU,cJ];refine wp_seq_k (λK1 AB=>?_);have AH:=Ab AB;clear AB;go_wp2;refine Aa AH _ _ ?_;clear AH K1;change Code.wp _ _ _ _ (((w.alloc (.cells E.toArray 243)).alloc (.cells (List.replicate 26 (Value.string ⟨#[]⟩)).toArray 243)).alloc (.cells #[.bool false] 4));rw[Aa Ix,Aa HN];clear Ix;refine wp_seq_k (λK1 AB=>?_);have AH:=Ab AB;clear AB;refine wp_seq_k (λK2 KS=>?_);have H8:=Ab KS;clear KS;go_wp2_with ((with_reducible show wpList _ _ _ ({dst:=_,op:=Op.load 243 _,type:=_,pos:=_,after:=_,guard:=_}::_) _ _);refine Br (by rfl) 243 _ rfl N 0 (by rfl) E _ (Aa H3).range underlying243 rfl (by rw[Aa HV];exact Tryz.size243) ?_)
 refine(Aa HH _).mono ?_;rintro _ w3 ⟨d1,d2,d3,d4,rfl,n1,n2,n3,n4,H5,U⟩;have FF:Hid (R4 w N false (List.replicate 26 (Value.string ⟨#[]⟩)) w3):=⟨(Aa Ax).kept.trans U,(Aa Ax).b1.kept U (by simp),(Aa Ax).b2.kept U (by simp)⟩;have OH:=(Aa Ax).b2.lt;have HW:=Aa HG d1 d2 d3 d4 w3 [N+1,N+2] ⟨(Aa FF).kept,n1,by rw[Aa M6];exact n2,n3,n4,λq o=>by
  have hn:=Aa HN
  have h3:=U.size
  obtain⟨g1,g2,g3,g4⟩:=H5
  simp only[aj,bE,or_false]at o
  rcases o with rfl|rfl<;>omega⟩
 have N4:=U.size;have HO:w.heap.size<=w3.heap.size:=(Aa FF).kept.size;clear n1 n2 n3 n4 H5 U HG HH H3 Ax;go_wp2;refine Aa H8 _ _ ?_;clear H8 K2;refine wp_block ?_;refine Jh (T:=243) (q:=10) rfl (enters_of func176 (by kernel_rfl) rfl) HW (λq o=>by
  simp only[aj,bE,or_false]at o
  rcases o with rfl|rfl<;>omega)
  (λFP M W=>(FP=[]/\M=[N+1,N+2])/\R4 w N false (List.replicate 26 (Value.string ⟨#[]⟩)) W) (λc _ _ W=>c= .ret/\∃x,x∈C/\R4 w N true (Ah (Bw x)) W)
  (R4.own HO (λs:List (List cL)×List Nat=>s.1=[]/\s.2=[N+1,N+2])) (λc=>CR (λs W a M hs k hM=>by
   obtain⟨h1,x,n,i⟩:=hs
   exact⟨h1,x,n,Ge i.kept k hM HO,i.b1.kept k (Do hM i.b1),i.b2.kept k (Do hM i.b2)⟩)) ⟨⟨rfl,rfl⟩,Aa FF⟩ ?rassign ?rbody ?rdone ?rstop
 case rassign=>
  intro l' x a K n HK;obtain⟨A,R⟩:=Ez x (Aa F x n);obtain⟨g,V⟩:∃g,Ah (Bw x)=g:=⟨_,rfl⟩;rw[V]at A R HK⊢;have AT:=Ab R;have F:=Ab A;have O:Hid (g.toArray.size=26):=by show _=_;simp[A]
  clear n V A R;simp only[Z3,Z4,Z5]at HK⊢;refine CN (by rfl) (KN Jk) ?_;go_wp2_with ((with_reducible show wpList _ _ _ ({dst:=_,op:=Op.store 243 _ _,type:=_,pos:=_,after:=_,guard:=_}::_) _ _);refine cq rfl 243 _ _ rfl a.heap.size 0 g.toArray (by rfl) (by rfl) ?_ ?_ ?_ ?_)
  ·have h:=(Aw.new a (List.replicate 26 (Value.string ⟨#[]⟩)) 243).there;simp only[cc]at h;rw[Aa O];exact h
  ·rw[Aa O];exact Tryz.size243
  ·exact bK (Aa AT)
  ·refine Aa HK _ (((Ac.refl [] a).alloc (.cells (List.replicate 26 (Value.string ⟨#[]⟩)).toArray 243)).putCells (b:=a.heap.size) (Or.inr (au _)) g 0) ?_;exact(Aw.new a (List.replicate 26 (Value.string ⟨#[]⟩)) 243).setAll g (by rw[Aa F];simp)
 case rbody=>
  rintro l' Bx FP x Pl M a JJ ⟨⟨rfl,rfl⟩,i⟩ hM P0 HB;have Ha:x∈C:=by rw[JJ];simp
  obtain⟨A,R⟩:=Ez x (Aa F x Ha);obtain⟨g,V⟩:∃g,Ah (Bw x)=g:=⟨_,rfl⟩;have NM:=Ab V;simp only[V]at A R HB⊢;have AT:=Ab R;have F:=Ab A;have O:Hid (g.toArray.size=26):=by show _=_;simp[A]
  have NX:=Ab HB;have z:=Ab i;have LE:=Ab Ha;clear i HB A R V JJ Ha;simp only[Z3,Z4,Z5];have j:Hid (Aw (a.setCells (N+1) 0 g) (N+1) g 243/\Aw (a.setCells (N+1) 0 g) (N+2) [.bool false] 4/\Ac [N+1,N+2] a (a.setCells (N+1) 0 g)):=by
   refine⟨(Aa z).b1.setAll g (by rw[Aa F];simp),?_,(Ac.refl _ a).putCells (b:=N+1) (Or.inl (by simp)) g 0⟩;exact(Aa z).b2.kept ((Ac.refl [N+1] a).putCells (b:=N+1) (Or.inl (by simp)) g 0) (by simp)
  refine wpIn_block ?_;refine dW (λK3 H4=>?_);have HU:=Ab H4;clear H4;refine CN (by rfl) (by rintro ⟨_,_,h⟩;exact h) ?_;go_wp2_with (first
   |((with_reducible show wpList _ _ _ ({dst:=_,op:=Op.load 243 _,type:=_,pos:=_,after:=_,guard:=_}::_) _ _);refine Br (by rfl) 243 _ rfl Bx 0 (by rfl) g _ (Aa NX).range underlying243 rfl (by rw[Aa F];exact Tryz.size243) ?_)
   |((with_reducible show wpList _ _ _ ({dst:=_,op:=Op.store 243 _ _,type:=_,pos:=_,after:=_,guard:=_}::_) _ _);refine cq rfl 243 _ _ rfl (N+1) 0 g.toArray (by rfl) (by rfl) (by rw[Aa O];have h:=(Aa z).b1.there;simp only[cc]at h;exact h) (by rw[Aa O];exact Tryz.size243) (bK (Aa AT)) ?_;simp only[dt];generalize a.setCells (N+1) 0 g=W2 at j;have c9:=(Aa j).2.1.cell 0;simp at c9;have f9:=(Aa j).2.1.frozen 0))
  refine Aa HU _ _ ?_;clear HU K3;refine wpIn_ret ?_;have L0:=(Aa j).2.1.set 0 (.bool true);have HT:Ac [N+1,N+2] a (W2.setCell ⟨N+2,0,none⟩ (.bool true)):=(Aa j).2.2.setCell (p:=⟨N+2,0,none⟩) (Or.inl (by simp)) _;refine⟨HT,[],rfl,x,Aa LE,(Aa z).kept.trans' HT (λq o=>Or.inr ?_),?_,L0⟩
  ·have hn:=Aa HN;simp only[aj,bE,or_false]at o;rcases o with rfl|rfl<;>omega
  ·rw[Aa NM];exact(Aa j).1.set_other ⟨N+2,0,none⟩ (by simp) _
 case rdone=>
  rintro D M' a hD ⟨⟨HQ,-⟩,i⟩ X _;refine Aa AH _ _ ?_;clear AH;have z:=Ab i;have HD:Hid (w.heap.size<=D/\a.heap[D]?=some (.deferred (some []))):=⟨by omega,X⟩;have NL:=Ab HQ;clear i X HQ HW FF;obtain⟨Z,Y⟩:∃Z,List.replicate 26 (Value.string ⟨#[]⟩)=Z:=⟨_,rfl⟩;have HZ:=Ab Y;have O:Hid (Z.toArray.size=26):=by show _=_;rw[<-Y];simp
  have AT:Hid (∀u∈Z,u.oneCell'=true):=λu hu=>by rw[<-Y]at hu;rw[(List.mem_replicate.1 hu).2];rfl
  have Mo:Hid (Z.length=26):=by show _=_;rw[<-Y];simp
  rw[Y]at z;clear Y;have j:Hid (R4 w N false Z ((a.setCells (N+1) 0 Z).setCell ⟨N+2,0,none⟩ (.bool false))/\((a.setCells (N+1) 0 Z).setCell ⟨N+2,0,none⟩ (.bool false)).heap[D]?=some (.deferred (some []))/\Aw (a.setCells (N+1) 0 Z) (N+2) [.bool false] 4):=by
   have k1:Ac [N+1] a (a.setCells (N+1) 0 Z):=(Ac.refl [N+1] a).putCells (b:=N+1) (Or.inl (by simp)) _ 0;have t:=(Aa z).b2.kept k1 (by simp);have k2:Ac [N+1,N+2] a ((a.setCells (N+1) 0 Z).setCell ⟨N+2,0,none⟩ (.bool false)):=(k1.mono (by simp)).setCell (p:=⟨N+2,0,none⟩) (Or.inl (by simp)) _;have LB:D∉[N+1,N+2]:=by
    intro h;simp only[aj,bE,or_false]at h;have:=Aa HN;rcases h with rfl|rfl<;>omega
   refine⟨⟨(Aa z).kept.trans' k2 (λq o=>Or.inr ?_),((Aa z).b1.setAll _ (by simp)).set_other ⟨N+2,0,none⟩ (by simp) _,t.set 0 _⟩,(k2.block D (bg.1 (Aa HD).2).1 LB).trans (Aa HD).2,t⟩;have hn:=Aa HN;simp only[aj,bE,or_false]at o;rcases o with rfl|rfl<;>omega
  go_wp2_with ((with_reducible show wpList _ _ _ ({dst:=_,op:=Op.store 243 _ _,type:=_,pos:=_,after:=_,guard:=_}::_) _ _);refine cq rfl 243 _ _ rfl (N+1) 0 Z.toArray (by rfl) (by rw[<-Aa HZ];rfl) (by rw[Aa O];have h:=(Aa z).b1.there;rw[Aa Mo]at h;exact h) (by rw[Aa O];exact Tryz.size243) (bK (Aa AT)) ?_;simp only[dt];generalize a.setCells (N+1) 0 Z=W2 at j;have c9:=(Aa j).2.2.cell 0;simp at c9;have f9:=(Aa j).2.2.frozen 0)
  refine Aa HX _ D _ Dr false rfl rfl (Aa HD).1 (Aa j).2.1 ?_ rfl (by rw[Aa NL];rfl) (λh=>by cases h);rw[LX,Aa HZ];exact(Aa j).1
 case rstop=>
  rintro D c FP M' a hD ⟨rfl,x,n,i⟩ X;refine wp_ret ?_;refine Aa HX _ D _ x true rfl rfl (by omega) X i (Aa F x n) ?_ (λ_=>n);cases C with
  |nil=>simp at n
  |cons y l=>rfl
end Go.Proofs.YtoihbhenbmffcaaGreatDoor
namespace Go.Proofs.YtoihbhenbmffcaaGreatDoor
open Go.RowKit
open Go.Proofs.Tryz
theorem XJ(acc:List UInt8)(t:AG):Tn (EG acc) (ct t)=EG (G1 acc t):=by
 have f:(ct t).v=(t.v.toNat:Int):=rfl;have c:(ct t).v≠0↔(t.v !=0)=true:=by
  have:=Uo t;rw[bJ,b8,b8]at this;simp[this]
 have b:(ct t).v∈EG acc↔acc.contains t.v=true:=by
  rw[eo,f];unfold EG;constructor
  ·intro h;obtain⟨u,d,e⟩:=az.1 h;have:u=t.v:=bQ.1 (by omega);rw[<-this];exact d
  ·intro h;exact az.2 ⟨t.v,h,rfl⟩
 unfold Tn G1;by_cases a:(t.v !=0&& !acc.contains t.v)=true
 ·rw[if_pos a];rw[aO]at a;rw[if_pos ⟨c.2 a.1,λh=>by rw[b.1 h]at a;simp at a⟩];unfold EG;rw[bm];rfl
 ·rw[if_neg a,if_neg (λh=>a (by rw[aO];exact⟨c.1 h.1,by cases hcc:acc.contains t.v with|true=>exact absurd (b.2 hcc) h.2|false=>rfl⟩))]
theorem NB:∀(a:List AG) (b:List UInt8),(a.map ct).foldl Tn (EG b)=EG (GJ b a)
 |[],b=>rfl
 |t::a,b=>by
  rw[aI,aR,XJ,NB a];rfl
theorem Su(ts:List AG):C4 (ts.map ct)=EG (GJ [] ts):=NB ts []
theorem VX(r:Bf):Gs r=r.head.args++(Al r).flatMap BM:=by
 unfold Gs Al;rw[List.flatMap_map]
 congr 1
theorem IT{al:UInt8->List cL->List cL}{f:List By}{s:List Aj}(d:∀v e,∀t∈al v e,AX t):∀(c:List UInt8) (e:List cL),C3 e->∀b∈AK al f s c e,C3 b
 |[],e,he,b,a=>by
  rw[AK]at a;split at a
  ·simp at a
  ·rw[ae]at a;rw[a];exact he
 |v::c,e,he,b,a=>by
  rw[AK]at a;split at a
  ·simp at a
  ·obtain⟨t,g,a⟩:=bh.1 a;exact IT d c _ (he.set _ (d v e t g)) b a
theorem MS{al:UInt8->List cL->List cL}{r:Bf}{n:List UInt8}{s:List Aj}(i:∀v e,∀t∈al v e,AX t)(f:OZ r (Cf r) n)(g:JI r.head){b:List cL}(j:b∈AK al (Al r) s (Cf r) Dr):∀t∈r.head.args,AX (AU b t):=by
 intro t c;have m:=Cp (λv e t c=>(i v e t c).size) (Cf r) Dr b rfl (λv k=>(f.ok v (Or.inl k)).1) j;have l:=IT i (Cf r) Dr C3.start b j;rcases l.val (g.args t c)with h|h
 ·exfalso
  by_cases d:t.v=0
  ·unfold AU at h;rw[if_pos d]at h;rcases g.args t c with⟨_,a⟩|⟨a,_⟩
   ·exact a.size h
   ·rw[d]at a;exact absurd a (by decide)
  ·rw[It d]at h;rcases f.head t c with a|a
   ·exact d a
   ·exact m.2.2.2 _ a h
 ·exact h
theorem V2{e:List cL}{r:Bf}{c:Da}(a:Qg c r)(d:JI r.head)(f:∀t∈r.head.args,AX (AU e t)):(⟨c.hn,c.hts.map (Bn (Bw e))⟩:DB)=CK (AI e r.head):=by
 unfold CK AI;simp only;rw[a.hn,a.hts,bX,bX]
 congr 1
 refine bT (λt b=>?_);simp only[Function.comp];rw[Hg (d.args t b),CY (f t b)]
def J2(al:UInt8->List cL->List cL)(r:Bf)(s:List Aj)(bs:List (List cL)):List Aj:=
 (bs.filter λb=> !Fq s (AI b r.head)&& !(AK al (Al r) s (C2 r) b).isEmpty).map λb=>AI b r.head
theorem Ps(al:UInt8->List cL->List cL)(r:Bf)(s:List Aj):J2 al r s (AK al (Al r) s (Cf r) Dr)=OF al r (Cf r) (C2 r) s:=rfl
theorem TU(al:UInt8->List cL->List cL)(r:Bf)(s:List Aj)(a:List (List cL))(b:List cL):J2 al r s (a++[b])=J2 al r s a++if(!Fq s (AI b r.head)&& !(AK al (Al r) s (C2 r) b).isEmpty)=true then[AI b r.head] else[]:=by
 unfold J2;rw[cE,bm]
 congr 1
 simp only[bL,List.filter_nil];split<;>rfl
structure OC(c:Da)(r:Bf)(s:List Aj):Prop where
 cor:Qg c r
 fit:MV c
 terms:(Bj c).length<=90000
 lits:∀x∈Al r,DC x/\NR (Lg x)
 parts:OZ r (Cf r) (C2 r)
 head:JI r.head
 fitA:W5 s (Al r)
 canon:∀f∈s,A6 f
 len:s.length<=10000
theorem OC.al{c:Da}{r:Bf}{s:List Aj}(h:OC c r s):∀v e,∀t∈KA (Al r) s v e,AX t:=λv e t a=>Lw h.canon h.fitA v e t ((Gy (Al r) s v e t).1 a)
theorem OC.order{c:Da}{r:Bf}{s:List Aj}(h:OC c r s):C4 (Bj c)=EG (Cf r++C2 r):=by
 rw[h.cor.terms,Su,VX,LF]
theorem OC.ofHead{c:Da}{r:Bf}{s:List Aj}(h:OC c r s):C4 c.hts=EG (Cf r):=by
 rw[h.cor.hts,Su];rfl
theorem LK(a:List UInt8):(EG a).length=a.length:=by unfold EG;simp
theorem F2.fst{a:List MH}{b:List Bm}(h:F2 UX a b):a.map Prod.fst=(b.map Prod.fst).map Lg:=by
 induction h using F2.ind with
 |nil=>rfl
 |cons h1 _ ih=>simp only[aI,ih,h1.eq]
theorem OC.vlen{c:Da}{r:Bf}{s:List Aj}(h:OC c r s):(Cf r++C2 r).length<=26:=by
 have b:=(EB (r.head.args++(Al r).flatMap BM) [] cZ).2.1;rw[LF]at b;have d:=MT (Cf r++C2 r) ((List.range 26).map λi=>UInt8.ofNat (i+65)) b (λv e=>by
  have a:=(h.parts.ok v (aw.1 e)).1
  refine az.2 ⟨v.toNat-65,List.mem_range.2 (by have:=a.1;have:=a.2;omega),?_⟩
  apply bQ.1
  rw[UInt8.toNat_ofNat']
  have:=a.1
  have:=a.2
  omega)
 simpa using d
theorem OC.sea{c:Da}{r:Bf}{s:List Aj}(h:OC c r s){w:World}{g l k:Nat}{f:Option Addr}{b:Nat}{e:Option Addr}{a:Nat}{m:Option Addr}{j:Nat}{d:List Fm}(i:Mn w g l k (.slice f c.lvs.length b) (.slice e (C4 (Bj c)).length a) m j d)(u:Cd w 0 (.slice f c.lvs.length b) c.lvs)(n:w.ownsRow 0 21 1 (.slice e (C4 (Bj c)).length a) (C4 (Bj c)).length ((C4 (Bj c)).flatMap AD))(o:Ej d s):Zh w g (Al r) s (Cf r++C2 r):=by
 have q:(Al r).length<=1000:=by
  have t:=congrArg List.length (F2.fst h.cor.lits);have x:=h.fit.lits;unfold Al;simp at t⊢;omega
 rw[h.order]at i n;exact⟨⟨l,k,f,b,c.lvs,e,a,m,j,d,i,u,F2.fst h.cor.lits,n,o⟩,h.len,h.lits,q,by have:=h.vlen;omega,h.fitA,λv p=>(h.parts.ok v (aw.1 p)).1⟩
structure ZZ where
 f:Fm
 n:Value
def NT(k:Nat)(st:ZZ):List Value:=[.string st.f.f.name,st.f.tv, .int .i64 k,st.n]
section
variable {P:Program} {ops:Array Oper} {Q:Exit->Act->World->Prop} {md:Region.Mode} {S:World->Prop} {k:Nat}
theorem CF.two{i j:Nat}{f g:Oper}{fuel:Nat}{d:Array Bool}{a:Act}{w:World}(n:Region.ready md ops d=[i,j])(x:ops[i]?=some f)(s:ops[j]?=some g)
  (y:∀K:Act->World->Prop,Hid (∀c b,(i≠k->S b)->CF P md ops Q S k fuel (d.setIfInBounds i true) c b->K c b)->
   if Region.wanted f (yielded ops a.tmps)=true then f.wp P a w K Q else K (a.put f.dst undef) w)
  (u:∀K:Act->World->Prop,Hid (∀c b,(j≠k->S b)->CF P md ops Q S k fuel (d.setIfInBounds j true) c b->K c b)->
   if Region.wanted g (yielded ops a.tmps)=true then g.wp P a w K Q else K (a.put g.dst undef) w):CF P md ops Q S k (fuel+1) d a w:=by
 have p:∀(q:Nat) (o:Oper),ops[q]?=some o->(∀K:Act->World->Prop,Hid (∀c b,(q≠k->S b)->CF P md ops Q S k fuel (d.setIfInBounds q true) c b->K c b)->
   if Region.wanted o (yielded ops a.tmps)=true then o.wp P a w K Q else K (a.put o.dst undef) w)->wpOp P ops Q q (λc b=>(q≠k->S b)/\CF P md ops Q S k fuel (d.setIfInBounds q true) c b) a w:=by
  intro q o t h;have e:=h _ (λc b v e=>And.intro v e);unfold wpOp;simp only[t];split
  ·rename_i l;rw[if_pos l]at e;exact .inl e
  ·rename_i l;rw[if_neg l]at e;exact e
 refine⟨λr=>(by rw[n]at r;cases r),λq m=>?_⟩;rw[n]at m;simp only[aj,bE,or_false]at m;rcases m with rfl|rfl
 ·exact p _ _ x y
 ·exact p _ _ s u
end
