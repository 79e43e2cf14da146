import Derived.Test.YtoihbhenbmffcaaGreatDoorYBJ
set_option linter.all false
set_option maxHeartbeats 0
namespace Go.Proofs.YtoihbhenbmffcaaGreatDoor
open Go.RowKit Go.Proofs.Tryz
theorem J1(m:Nat)(k:List Bg)(s:List Ah)(f:List UInt8)(w0:World)(n:List Nat)(t:∀r,Ac n w0 r->Yl r m k s f)(b:Nat)(A:b<=f.length)(j:List UInt8):∀(a:Nat) (e:List cR) (c g d h:Nat) (w:World) (i:List Nat),CP e->a<=b->(f.take b).drop a=j->Ry w0 n m c g d h a b e i w->
  Kr prog 176 #[.pointer (some ⟨c,0,none⟩),.pointer (some ⟨g,0,none⟩),.pointer (some ⟨d,0,none⟩),.pointer (some ⟨h,0,none⟩)] (λx=>#[.agg (Ai (Bf x)).toArray]) (As (IX k s) k s j e) i w:=by
 induction j with
 |nil=>
  intro a e c g d h w i o J l p
  have G:b-a=0:=by
   have:=congrArg List.length l;rw[cQ,cM]at this;simp at this;omega
  obtain rfl:a=b:=by omega
  exact R3 m k s f w0 n t _ a e c g d h w i o p
 |cons v j ih=>
  intro a e c g d h w i o J l p
  have G:b-a=j.length+1:=by
   have:=congrArg List.length l;rw[cQ,cM]at this;simp at this;omega
  have u:a<b:=by omega
  have I:a<(f.take b).length:=by rw[cM];omega
  rw[ci I]at l;obtain⟨q,z⟩:=List.cons.inj l;rw[eR]at q;exact Rf m k s f w0 n t v j a b e c g d h w i o u A q p (λB D E H K y M C F=>ih (a+1) B D E H K y M C (by omega) z F)
theorem Lc(k:Nat)(d:List Bg)(s:List Ah)(g:List UInt8)(w0:World)(q:Yl w0 k d s g)(b:Nat)(m:b<=g.length)(l:List UInt8):∀(a:Nat) (e:List cR) (c h f i:Nat) (w:World) (j:List Nat),CP e->a<=b->(g.take b).drop a=l->XR w0 k c h f i a b e j w->
  Kr prog 176 #[.pointer (some ⟨c,0,none⟩),.pointer (some ⟨h,0,none⟩),.pointer (some ⟨f,0,none⟩),.pointer (some ⟨i,0,none⟩)] (λx=>#[.agg (Ai (Bf x)).toArray]) (As (IX d s) d s l e) j w:=
 λa e c h f i w j p r o t=>J1 k d s g w0 [] (λu n=>q.kept n) b m l a e c h f i w j p r o t.more
theorem Xl{P:Program}{fn:Func}{p q:Tmp}{a e:TypeId}(h:fn.results=#[.cell p a,.cell q e]){tmps:Array Value}{w:World}{b:Nat}{cs:List Value}{t:TypeId}{d:TypeDesc}
  (g:tmps.getD p undef=.pointer (some ⟨b,0,none⟩)) (n:AE w b cs t) (m:P.underlying a=some d) (f:d.isRow=true) (o:(P.info? a).map (·.size)=some cs.length)
  {c:Nat} {v:Value} (k:tmps.getD q undef=.pointer (some ⟨c,0,none⟩)) (i:(loadVar e ⟨c,0,none⟩).run P w=.ok v w):
  (results fn tmps).run P w=.ok (.tuple #[.agg cs.toArray,v]) w:=by
 have l:=run_loadVar_mid (P:=P) w b 0 a cs d n.range m f o;have j:tmps[p]?.getD undef=.pointer (some ⟨b,0,none⟩):=by simpa using g
 have r:tmps[q]?.getD undef=.pointer (some ⟨c,0,none⟩):=by simpa using k
 simp only[results,h];simp[fx,Result.andThen,j,l,asAddr,r,i]
structure SW(w:World)(N:Nat)(B:Bool)(X:List Value)(W:World):Prop where
 kept:Ac [] w W
 b1:AE W (N+1) X 243
 b2:AE W (N+2) [.bool B] 4
theorem SW.own{w:World}{N c:Nat}{B:Bool}{X:List Value}(h:w.heap.size<=c){β:Type}(A:β->Prop):OwnFrom c (fun(s:β) W=>A s/\SW w N B X W):=
 BV (λs W d M a k b=>⟨a.1,EL a.2.kept k b h,a.2.b1.kept k (C5 b a.2.b1),a.2.b2.kept k (C5 b a.2.b2)⟩)
theorem D4(x:List cR)(h:x.length=26):(Ai (Bf x)).length=26/\∀u∈Ai (Bf x),u.oneCell'=true:=by
 refine⟨by unfold Ai Bf;rw[bX,bX];exact h,λu a=>?_⟩;unfold Ai at a;obtain⟨y,_,rfl⟩:=bV.1 a;rfl
theorem Jg:Ai (Bf BX)=List.replicate 26 (Value.string ⟨#[]⟩):=by
 unfold Ai Bf BX;rw[List.map_replicate,List.map_replicate,NN];rfl
theorem Xh{w:World}{b:Nat}{B:Bool}(h:AE w b [.bool B] 4):(loadVar 4 ⟨b,0,none⟩).run prog w=.ok (.bool B) w:=by
 have c:=h.cell 0;simp at c;simp[go_sem,c,underlying4]
set_option maxRecDepth 100000
theorem Xa(Q:Nat)(m:List Bg)(s:List Ah)(vs:List UInt8)(L G:Nat)(I:List UInt8)(e:List cR)(w:World)(hS:Yl w Q m s vs)(he:CP e)(KS:L<=G)(HL:G<=vs.length)(hr:(vs.take G).drop L=I):
  Calls prog 197 #[.pointer (some ⟨Q,0,none⟩),.int .i64 L,.int .i64 G,.agg (Ai (Bf e)).toArray] w λr v=>∃(x:List cR) (B:Bool),r=.returned (.tuple #[.agg (Ai (Bf x)).toArray,.bool B])/\x.length=26/\B= !(As (IX m s) m s I e).isEmpty/\(B=true->x∈As (IX m s) m s I e)/\Ac [] w v:=by
 have HF:Hid (∀J t H P f M0,XR w Q J t H P L G e M0 f->Kr prog 176 #[.pointer (some ⟨J,0,none⟩),.pointer (some ⟨t,0,none⟩),.pointer (some ⟨H,0,none⟩),.pointer (some ⟨P,0,none⟩)] (λx=>#[.agg (Ai (Bf x)).toArray]) (As (IX m s) m s I e) M0 f):=λJ t H P f M0 hB=>Lc Q m s vs w hS G HL I L e J t H P f M0 he KS hr hB
 have F:Hid (∀x∈As (IX m s) m s I e,x.length=26):=FQ I e he.len;obtain⟨C,HX⟩:∃C,As (IX m s) m s I e=C:=⟨_,rfl⟩;rw[HX]at HF F⊢;have hc:=Bo (Bf e);obtain⟨HE,MN⟩:=D4 e he.len;have HG:Hid (∀f,Calls prog 141 #[.pointer (some ⟨Q,0,none⟩),.int .i64 L,.int .i64 G,.agg (Ai (Bf e)).toArray] f λr v=>∃J t H P,r=.returned (.func (.func 176) #[] #[.pointer (some ⟨J,0,none⟩),.pointer (some ⟨t,0,none⟩),.pointer (some ⟨H,0,none⟩),.pointer (some ⟨P,0,none⟩)])/\
   AE v J [.pointer (some ⟨Q,0,none⟩)] 233/\AE v t (Ai (Bf e)) 243/\AE v H [.int .i64 L] 3/\AE v P [.int .i64 G] 3/\(f.heap.size<=J/\f.heap.size<=t/\f.heap.size<=H/\f.heap.size<=P)/\Ac [] f v):=λf=>G1 Q L G _ f hc HE
 have HU:=Ab HE;obtain⟨E,hE⟩:∃E,Ai (Bf e)=E:=⟨_,rfl⟩;have Mo:=Ab hE;rw[hE]at hc HE HU HG⊢;obtain⟨N,hN⟩:∃N,w.heap.size=N:=⟨_,rfl⟩;have HN:=Ab hN;obtain⟨w1,S⟩:∃w1,((w.alloc (.cells E.toArray 243)).alloc (.cells (List.replicate 26 (Value.string ⟨#[]⟩)).toArray 243)).alloc (.cells #[.bool false] 4)=w1:=⟨_,rfl⟩;have H9:=Ab S;have H2:Hid (AE w1 N E 243):=by
  have h:=((AE.new w E 243).alloc (.cells (List.replicate 26 (Value.string ⟨#[]⟩)).toArray 243)).alloc (.cells #[.bool false] 4);rw[S,hN]at h;exact h
 have Ax:Hid (SW w N false (List.replicate 26 (Value.string ⟨#[]⟩)) w1):=by
  refine⟨?_,?_,?_⟩
  .rw[<-S];exact(((Ac.refl [] w).alloc _).alloc _).alloc _
  .have h:=(AE.new (w.alloc (.cells E.toArray 243)) (List.replicate 26 (Value.string ⟨#[]⟩)) 243).alloc (.cells #[.bool false] 4);rw[S,cD,hN]at h;exact h
  .have h:=AE.new ((w.alloc (.cells E.toArray 243)).alloc (.cells (List.replicate 26 (Value.string ⟨#[]⟩)).toArray 243)) [.bool false] 4;rw[cD,cD,hN]at h;rw[<-S];exact h
 clear HX hE hS he KS HL hr MN S hN;obtain⟨QQ,HI⟩:∃QQ,Kd (bodyPostM Fence.wide 0 prog Tryz.f197 λr v=>∃(x:List cR) (B:Bool),r=.returned (.tuple #[.agg (Ai (Bf x)).toArray,.bool B])/\x.length=26/\B= !C.isEmpty/\(B=true->x∈C)/\Ac [] w v)=QQ:=⟨_,rfl⟩;have HW:Hid (∀(EK:Array Value) (D:Nat) (f:World) (x:List cR) (B:Bool),EK.getD 8 undef=.pointer (some ⟨N+1,0,none⟩)->EK.getD 9 undef=.pointer (some ⟨N+2,0,none⟩)->w.heap.size<=D->f.heap[D]?=some (.deferred (some []))->SW w N B (Ai (Bf x)) f->x.length=26->B= !C.isEmpty->(B=true->x∈C)->QQ .ret ⟨EK,[DY D]⟩ f):=by
  intro EK D f x B h8 h9 hD X i n hB hm;rw[<-HI];have HY:C1 w.heap.size [D] f:=⟨by simp,λd CC=>by simp only[bO]at CC;omega,λd CC=>by simp only[bO]at CC;rw[CC];exact X⟩;refine Dk [D] f HY (λv hs=>?_);have Ha:=(hs.own (SW.own (bZ _) (λ_:Unit=>True)) (s:=()) HY ⟨trivial,i⟩).2;exact⟨_,Xl rfl h8 Ha.b1 underlying243 rfl (by rw[(D4 x n).1];exact Tryz.ea) h9 (Xh Ha.b2),x,B,rfl,n,hB,hm,Ha.kept⟩
 refine EB func197 rfl (GJ ?_);rw[HI];clear HI;simp only[ntmps197,dh,bU,cE,Nat.reduceAdd,Nat.reduceSub,eu,ev,eU,eH,dm,dG];refine wp_seq_k (λK1 AB=>?_);have AH:=Ab AB;clear AB;go_wp2;refine Aa AH _ _ ?_;clear AH K1;change Code.wp _ _ _ _ (((w.alloc (.cells E.toArray 243)).alloc (.cells (List.replicate 26 (Value.string ⟨#[]⟩)).toArray 243)).alloc (.cells #[.bool false] 4));rw[Aa H9,Aa HN];clear H9;refine wp_seq_k (λK1 AB=>?_);have AH:=Ab AB;clear AB;refine wp_seq_k (λK2 JA=>?_);have H7:=Ab JA;clear JA;go_wp2_with ((with_reducible show wpList _ _ _ ({dst:=_,op:=Op.load 243 _,type:=_,pos:=_,after:=_,guard:=_}::_) _ _);refine By (by rfl) 243 _ rfl N 0 (by rfl) E _ (Aa H2).range underlying243 rfl (by rw[Aa HU];exact Tryz.ea) ?_)
 refine(Aa HG _).mono ?_;rintro _ w3 ⟨d1,d2,d3,d4,rfl,n1,n2,n3,n4,H4,U⟩;have FA:Hid (SW w N false (List.replicate 26 (Value.string ⟨#[]⟩)) w3):=⟨(Aa Ax).kept.trans U,(Aa Ax).b1.kept U (by simp),(Aa Ax).b2.kept U (by simp)⟩;have NS:=(Aa Ax).b2.lt;have HV:=Aa HF d1 d2 d3 d4 w3 [N+1,N+2] ⟨(Aa FA).kept,n1,by rw[Aa Mo];exact n2,n3,n4,λq o=>by
  have hn:=Aa HN
  have h3:=U.size
  obtain⟨g1,g2,g3,g4⟩:=H4
  simp only[bS,di,or_false]at o
  rcases o with rfl|rfl<;>omega⟩
 have NL:=U.size;have HM:w.heap.size<=w3.heap.size:=(Aa FA).kept.size;clear n1 n2 n3 n4 H4 U HF HG H2 Ax;go_wp2;refine Aa H7 _ _ ?_;clear H7 K2;refine wp_block ?_;refine Hp (T:=243) (q:=10) rfl (enters_of func176 (by kernel_rfl) rfl) HV (λq o=>by
  simp only[bS,di,or_false]at o
  rcases o with rfl|rfl<;>omega)
  (λFL M W=>(FL=[]/\M=[N+1,N+2])/\SW w N false (List.replicate 26 (Value.string ⟨#[]⟩)) W) (λc _ _ W=>c=.ret/\∃x,x∈C/\SW w N true (Ai (Bf x)) W)
  (SW.own HM (λs:List (List cR)×List Nat=>s.1=[]/\s.2=[N+1,N+2])) (λc=>BV (λs W a M hs k hM=>by
   obtain⟨h1,x,n,i⟩:=hs
   exact⟨h1,x,n,EL i.kept k hM HM,i.b1.kept k (C5 hM i.b1),i.b2.kept k (C5 hM i.b2)⟩)) ⟨⟨rfl,rfl⟩,Aa FA⟩ ?rassign ?rbody ?rdone ?rstop
 case rassign=>
  intro l' x a K n HK;obtain⟨A,R⟩:=D4 x (Aa F x n);obtain⟨g,V⟩:∃g,Ai (Bf x)=g:=⟨_,rfl⟩;rw[V]at A R HK⊢;have AO:=Ab R;have F:=Ab A;have O:Hid (g.toArray.size=26):=by show _=_;simp[A]
  clear n V A R;simp only[bH,bI,bJ]at HK⊢;refine AZ (by rfl) (If Gx) ?_;go_wp2_with ((with_reducible show wpList _ _ _ ({dst:=_,op:=Op.store 243 _ _,type:=_,pos:=_,after:=_,guard:=_}::_) _ _);refine dP rfl 243 _ _ rfl a.heap.size 0 g.toArray (by rfl) (by rfl) ?_ ?_ ?_ ?_)
  .have h:=(AE.new a (List.replicate 26 (Value.string ⟨#[]⟩)) 243).there;simp only[dD]at h;rw[Aa O];exact h
  .rw[Aa O];exact Tryz.ea
  .exact dq (Aa AO)
  .refine Aa HK _ (((Ac.refl [] a).alloc (.cells (List.replicate 26 (Value.string ⟨#[]⟩)).toArray 243)).ek (b:=a.heap.size) (Or.inr (bZ _)) g 0) ?_;exact(AE.new a (List.replicate 26 (Value.string ⟨#[]⟩)) 243).gH g (by rw[Aa F];simp)
 case rbody=>
  rintro l' Bx FL x NV M a IA ⟨⟨rfl,rfl⟩,i⟩ hM NY HA;have Go:x∈C:=by rw[IA];simp
  obtain⟨A,R⟩:=D4 x (Aa F x Go);obtain⟨g,V⟩:∃g,Ai (Bf x)=g:=⟨_,rfl⟩;have M1:=Ab V;simp only[V]at A R HA⊢;have AO:=Ab R;have F:=Ab A;have O:Hid (g.toArray.size=26):=by show _=_;simp[A]
  have M6:=Ab HA;have z:=Ab i;have K8:=Ab Go;clear i HA A R V IA Go;simp only[bH,bI,bJ];have j:Hid (AE (a.setCells (N+1) 0 g) (N+1) g 243/\AE (a.setCells (N+1) 0 g) (N+2) [.bool false] 4/\Ac [N+1,N+2] a (a.setCells (N+1) 0 g)):=by
   refine⟨(Aa z).b1.gH g (by rw[Aa F];simp),?_,(Ac.refl _ a).ek (b:=N+1) (Or.inl (by simp)) g 0⟩;exact(Aa z).b2.kept ((Ac.refl [N+1] a).ek (b:=N+1) (Or.inl (by simp)) g 0) (by simp)
  refine wpIn_block ?_;refine dM (λK3 H3=>?_);have HT:=Ab H3;clear H3;refine AZ (by rfl) (by rintro ⟨_,_,h⟩;exact h) ?_;go_wp2_with (first
   |((with_reducible show wpList _ _ _ ({dst:=_,op:=Op.load 243 _,type:=_,pos:=_,after:=_,guard:=_}::_) _ _);refine By (by rfl) 243 _ rfl Bx 0 (by rfl) g _ (Aa M6).range underlying243 rfl (by rw[Aa F];exact Tryz.ea) ?_)
   |((with_reducible show wpList _ _ _ ({dst:=_,op:=Op.store 243 _ _,type:=_,pos:=_,after:=_,guard:=_}::_) _ _);refine dP rfl 243 _ _ rfl (N+1) 0 g.toArray (by rfl) (by rfl) (by rw[Aa O];have h:=(Aa z).b1.there;simp only[dD]at h;exact h) (by rw[Aa O];exact Tryz.ea) (dq (Aa AO)) ?_;simp only[fb];generalize a.setCells (N+1) 0 g=W2 at j;have c9:=(Aa j).2.1.cell 0;simp at c9;have f9:=(Aa j).2.1.frozen 0))
  refine Aa HT _ _ ?_;clear HT K3;refine wpIn_ret ?_;have LE:=(Aa j).2.1.set 0 (.bool true);have HS:Ac [N+1,N+2] a (W2.setCell ⟨N+2,0,none⟩ (.bool true)):=(Aa j).2.2.setCell (p:=⟨N+2,0,none⟩) (Or.inl (by simp)) _;refine⟨HS,[],rfl,x,Aa K8,(Aa z).kept.trans' HS (λq o=>Or.inr ?_),?_,LE⟩
  .have hn:=Aa HN;simp only[bS,di,or_false]at o;rcases o with rfl|rfl<;>omega
  .rw[Aa M1];exact(Aa j).1.dT ⟨N+2,0,none⟩ (by simp) _
 case rdone=>
  rintro D M' a hD ⟨⟨HP,-⟩,i⟩ X _;refine Aa AH _ _ ?_;clear AH;have z:=Ab i;have HD:Hid (w.heap.size<=D/\a.heap[D]?=some (.deferred (some []))):=⟨by omega,X⟩;have MY:=Ab HP;clear i X HP HV FA;obtain⟨Z,Y⟩:∃Z,List.replicate 26 (Value.string ⟨#[]⟩)=Z:=⟨_,rfl⟩;have HZ:=Ab Y;have O:Hid (Z.toArray.size=26):=by show _=_;rw[<-Y];simp
  have AO:Hid (∀u∈Z,u.oneCell'=true):=λu hu=>by rw[<-Y]at hu;rw[(List.mem_replicate.1 hu).2];rfl
  have LL:Hid (Z.length=26):=by show _=_;rw[<-Y];simp
  rw[Y]at z;clear Y;have j:Hid (SW w N false Z ((a.setCells (N+1) 0 Z).setCell ⟨N+2,0,none⟩ (.bool false))/\((a.setCells (N+1) 0 Z).setCell ⟨N+2,0,none⟩ (.bool false)).heap[D]?=some (.deferred (some []))/\AE (a.setCells (N+1) 0 Z) (N+2) [.bool false] 4):=by
   have k1:Ac [N+1] a (a.setCells (N+1) 0 Z):=(Ac.refl [N+1] a).ek (b:=N+1) (Or.inl (by simp)) _ 0;have t:=(Aa z).b2.kept k1 (by simp);have k2:Ac [N+1,N+2] a ((a.setCells (N+1) 0 Z).setCell ⟨N+2,0,none⟩ (.bool false)):=(k1.mono (by simp)).setCell (p:=⟨N+2,0,none⟩) (Or.inl (by simp)) _;have K6:D∉[N+1,N+2]:=by
    intro h;simp only[bS,di,or_false]at h;have:=Aa HN;rcases h with rfl|rfl<;>omega
   refine⟨⟨(Aa z).kept.trans' k2 (λq o=>Or.inr ?_),((Aa z).b1.gH _ (by simp)).dT ⟨N+2,0,none⟩ (by simp) _,t.set 0 _⟩,(k2.block D (cS.1 (Aa HD).2).1 K6).trans (Aa HD).2,t⟩;have hn:=Aa HN;simp only[bS,di,or_false]at o;rcases o with rfl|rfl<;>omega
  go_wp2_with ((with_reducible show wpList _ _ _ ({dst:=_,op:=Op.store 243 _ _,type:=_,pos:=_,after:=_,guard:=_}::_) _ _);refine dP rfl 243 _ _ rfl (N+1) 0 Z.toArray (by rfl) (by rw[<-Aa HZ];rfl) (by rw[Aa O];have h:=(Aa z).b1.there;rw[Aa LL]at h;exact h) (by rw[Aa O];exact Tryz.ea) (dq (Aa AO)) ?_;simp only[fb];generalize a.setCells (N+1) 0 Z=W2 at j;have c9:=(Aa j).2.2.cell 0;simp at c9;have f9:=(Aa j).2.2.frozen 0)
  refine Aa HW _ D _ BX false rfl rfl (Aa HD).1 (Aa j).2.1 ?_ rfl (by rw[Aa MY];rfl) (λh=>by cases h);rw[Jg,Aa HZ];exact(Aa j).1
 case rstop=>
  rintro D c FL M' a hD ⟨rfl,x,n,i⟩ X;refine wp_ret ?_;refine Aa HW _ D _ x true rfl rfl (by omega) X i (Aa F x n) ?_ (λ_=>n);cases C with
  |nil=>simp at n
  |cons y l=>rfl
end Go.Proofs.YtoihbhenbmffcaaGreatDoor
namespace Go.Proofs.YtoihbhenbmffcaaGreatDoor
open Go.RowKit Go.Proofs.Tryz
theorem YE(acc:List UInt8)(t:AG):Uj (Cm acc) (ct t)=Cm (Dj acc t):=by
 have f:(ct t).v=(t.v.toNat:Int):=rfl;have c:(ct t).v≠0↔(t.v !=0)=true:=by
  have:=Vj t;rw[dk,dE,dE]at this;simp[this]
 have b:(ct t).v∈Cm acc↔acc.contains t.v=true:=by
  rw[fh,f];unfold Cm;constructor
  .intro h;obtain⟨u,d,e⟩:=bV.1 h;have:u=t.v:=dx.1 (by omega);rw[<-this];exact d
  .intro h;exact bV.2 ⟨t.v,h,rfl⟩
 unfold Uj Dj;by_cases a:(t.v !=0&& !acc.contains t.v)=true
 .rw[if_pos a];rw[cq]at a;rw[if_pos ⟨c.2 a.1,λh=>by rw[b.1 h]at a;simp at a⟩];unfold Cm;rw[cW];rfl
 .rw[if_neg a,if_neg (λh=>a (by rw[cq];exact⟨c.1 h.1,by cases hcc:acc.contains t.v with|true=>exact absurd (b.2 hcc) h.2|false=>rfl⟩))]
theorem Oq:∀(a:List AG) (b:List UInt8),(a.map ct).foldl Uj (Cm b)=Cm (CO b a)
 |[],b=>rfl
 |t::a,b=>by
  rw[cu,cC,YE,Oq a];rfl
theorem Pa(ts:List AG):C4 (ts.map ct)=Cm (CO [] ts):=Oq ts []
theorem WV(r:A7):F4 r=r.head.args++(Am r).flatMap Bm:=by
 unfold F4 Am;rw[List.flatMap_map]
 congr 1
theorem GY{al:UInt8->List cR->List cR}{f:List Bg}{s:List Ah}(d:∀v e,∀t∈al v e,AX t):∀(c:List UInt8) (e:List cR),CP e->∀b∈As al f s c e,CP b
 |[],e,he,b,a=>by
  rw[As]at a;split at a
  .simp at a
  .rw[bO]at a;rw[a];exact he
 |v::c,e,he,b,a=>by
  rw[As]at a;split at a
  .simp at a
  .obtain⟨t,g,a⟩:=cO.1 a;exact GY d c _ (he.set _ (d v e t g)) b a
theorem NE{al:UInt8->List cR->List cR}{r:A7}{n:List UInt8}{s:List Ah}(i:∀v e,∀t∈al v e,AX t)(f:PO r (Ck r) n)(g:Kf r.head){b:List cR}(j:b∈As al (Am r) s (Ck r) BX):∀t∈r.head.args,AX (AR b t):=by
 intro t c;have m:=BN (λv e t c=>(i v e t c).size) (Ck r) BX b rfl (λv k=>(f.ok v (Or.inl k)).1) j;have l:=GY i (Ck r) BX CP.start b j;rcases l.val (g.args t c)with h|h
 .exfalso
  by_cases d:t.v=0
  .unfold AR at h;rw[if_pos d]at h;rcases g.args t c with⟨_,a⟩|⟨a,_⟩
   .exact a.size h
   .rw[d]at a;exact absurd a (by decide)
  .rw[Fi d]at h;rcases f.head t c with a|a
   .exact d a
   .exact m.2.2.2 _ a h
 .exact h
theorem W6{e:List cR}{r:A7}{c:C0}(a:Pj c r)(d:Kf r.head)(f:∀t∈r.head.args,AX (AR e t)):(⟨c.hn,c.eB.map (Bs (Bf e))⟩:Ev)=Df (AA e r.head):=by
 unfold Df AA;simp only;rw[a.hn,a.eB,dt,dt]
 congr 1
 refine du (λt b=>?_);simp only[Function.comp];rw[Ig (d.args t b),CD (f t b)]
def KC(al:UInt8->List cR->List cR)(r:A7)(s:List Ah)(bs:List (List cR)):List Ah:=
 (bs.filter λb=> !FK s (AA b r.head)&& !(As al (Am r) s (C7 r) b).isEmpty).map λb=>AA b r.head
theorem Qn(al:UInt8->List cR->List cR)(r:A7)(s:List Ah):KC al r s (As al (Am r) s (Ck r) BX)=Ps al r (Ck r) (C7 r) s:=rfl
theorem UL(al:UInt8->List cR->List cR)(r:A7)(s:List Ah)(a:List (List cR))(b:List cR):KC al r s (a++[b])=KC al r s a++if(!FK s (AA b r.head)&& !(As al (Am r) s (C7 r) b).isEmpty)=true then[AA b r.head] else[]:=by
 unfold KC;rw[dZ,cW]
 congr 1
 simp only[dv,List.filter_nil];split<;>rfl
structure Pp(c:C0)(r:A7)(s:List Ah):Prop where
 gh:Pj c r
 fit:NF c
 gC:(Bn c).length<=90000
 lits:∀x∈Am r,CN x/\Np (Kj x)
 parts:PO r (Ck r) (C7 r)
 head:Kf r.head
 fitA:Vy s (Am r)
 canon:∀f∈s,A4 f
 len:s.length<=10000
theorem Pp.al{c:C0}{r:A7}{s:List Ah}(h:Pp c r s):∀v e,∀t∈IX (Am r) s v e,AX t:=λv e t a=>Ho h.canon h.fitA v e t ((Fd (Am r) s v e t).1 a)
theorem Pp.order{c:C0}{r:A7}{s:List Ah}(h:Pp c r s):C4 (Bn c)=Cm (Ck r++C7 r):=by
 rw[h.gh.gC,Pa,WV,Mn]
theorem Pp.ofHead{c:C0}{r:A7}{s:List Ah}(h:Pp c r s):C4 c.eB=Cm (Ck r):=by
 rw[h.gh.eB,Pa];rfl
theorem FI(a:List UInt8):(Cm a).length=a.length:=by unfold Cm;simp
theorem F2.fst{a:List JF}{bl:List AY}(h:F2 QA a bl):a.map Prod.fst=(bl.map Prod.fst).map Kj:=by
 induction h using F2.ind with
 |nil=>rfl
 |cons h1 _ ih=>simp only[cu,ih,h1.eq]
theorem Tm:∀(b:List AG) (a:List UInt8),(CO a b).length<=a.length+b.length
 |[],a=>by simp[CO]
 |t::b,a=>by
  have c:=Tm b (Dj a t);have d:(Dj a t).length<=a.length+1:=by unfold Dj;split<;>simp
  have e:CO a (t::b)=CO (Dj a t) b:=rfl;rw[e,bU];omega
theorem Pp.zC{c:C0}{r:A7}{s:List Ah}(h:Pp c r s):(Ck r++C7 r).length<=26:=by
 have b:=(DD (r.head.args++(Am r).flatMap Bm) [] dW).2.1;rw[Mn]at b;have d:=LQ (Ck r++C7 r) ((List.range 26).map λi=>UInt8.ofNat (i+65)) b (λv e=>by
  have a:=(h.parts.ok v (bY.1 e)).1
  refine bV.2 ⟨v.toNat-65,List.mem_range.2 (by have:=a.1;have:=a.2;omega),?_⟩
  apply dx.1
  rw[UInt8.toNat_ofNat']
  have:=a.1
  have:=a.2
  omega)
 simpa using d
theorem Pp.sea{c:C0}{r:A7}{s:List Ah}(h:Pp c r s){w:World}{g l k:Nat}{f:Option Addr}{b:Nat}{e:Option Addr}{a:Nat}{m:Option Addr}{j:Nat}{d:List Gm}(i:M8 w g l k (.slice f c.db.length b) (.slice e (C4 (Bn c)).length a) m j d)(u:BI w 0 (.slice f c.db.length b) c.db)(n:w.ownsRow 0 21 1 (.slice e (C4 (Bn c)).length a) (C4 (Bn c)).length ((C4 (Bn c)).flatMap AK))(o:Ei d s):Yl w g (Am r) s (Ck r++C7 r):=by
 have q:(Am r).length<=1000:=by
  have t:=congrArg List.length (F2.fst h.gh.lits);have x:=h.fit.lits;unfold Am;simp at t⊢;omega
 rw[h.order]at i n;exact⟨⟨l,k,f,b,c.db,e,a,m,j,d,i,u,F2.fst h.gh.lits,n,o⟩,h.len,h.lits,q,by have:=h.zC;omega,h.fitA,λv p=>(h.parts.ok v (bY.1 p)).1⟩
structure bB where
 f:Gm
 n:Value
def OE(k:Nat)(st:bB):List Value:=[.string st.f.f.name,st.f.tv,.int .i64 k,st.n]
section
variable {P:Program} {ops:Array Oper} {Q:Exit->Act->World->Prop} {md:Region.Mode} {S:World->Prop} {k:Nat}
theorem Ce.two{i j:Nat}{f g:Oper}{fuel:Nat}{d:Array Bool}{a:Act}{w:World}(n:Region.ready md ops d=[i,j])(x:ops[i]?=some f)(s:ops[j]?=some g)
  (y:∀K:Act->World->Prop,Hid (∀c b,(i≠k->S b)->Ce P md ops Q S k fuel (d.setIfInBounds i true) c b->K c b)->
   if Region.wanted f (yielded ops a.tmps)=true then f.wp P a w K Q else K (a.put f.dst undef) w)
  (u:∀K:Act->World->Prop,Hid (∀c b,(j≠k->S b)->Ce P md ops Q S k fuel (d.setIfInBounds j true) c b->K c b)->
   if Region.wanted g (yielded ops a.tmps)=true then g.wp P a w K Q else K (a.put g.dst undef) w):Ce P md ops Q S k (fuel+1) d a w:=by
 have p:∀(q:Nat) (o:Oper),ops[q]?=some o->(∀K:Act->World->Prop,Hid (∀c b,(q≠k->S b)->Ce P md ops Q S k fuel (d.setIfInBounds q true) c b->K c b)->
   if Region.wanted o (yielded ops a.tmps)=true then o.wp P a w K Q else K (a.put o.dst undef) w)->wpOp P ops Q q (λc b=>(q≠k->S b)/\Ce P md ops Q S k fuel (d.setIfInBounds q true) c b) a w:=by
  intro q o t h;have e:=h _ (λc b v e=>And.intro v e);unfold wpOp;simp only[t];split
  .rename_i l;rw[if_pos l]at e;exact .inl e
  .rename_i l;rw[if_neg l]at e;exact e
 refine⟨λr=>(by rw[n]at r;cases r),λq m=>?_⟩;rw[n]at m;simp only[bS,di,or_false]at m;rcases m with rfl|rfl
 .exact p _ _ x y
 .exact p _ _ s u
end
