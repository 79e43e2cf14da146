import Derived.Test.YtoihbhenbmffcaaGreatDoorYBI
set_option linter.all false
set_option maxHeartbeats 0
open List renaming length->Z,toArray->j3,replicate->lV
open Option renaming none->Y,some->V
open Go.Value renaming slice->U,int->X,string->O,pointer->kt,agg->lR,bool->lT
open Bool renaming false->K,true->j1
open Go.Obj renaming cells->j2
open Or renaming inl->lx
open Go renaming World->l9,Value->lN
namespace Go.Proofs.YtoihbhenbmffcaaGreatDoor
open Go.RowKit Go.Proofs.Tryz
def KP(m:Nat)(k:mc Bi)(s:mc Af)(f:mc UInt8)(w0:l9)(n:mc Nat)(t:∀r,Ac n w0 r->aQ r m k s f)(b:Nat)(A:b<=Z f)(j:mc UInt8):∀(a:Nat) (e:mc zA) (c g d h:Nat) (w:l9) (i:mc Nat),CQ e->a<=b->(f.take b).drop a=j->Tv w0 n m c g d h a b e i w->
  Kq prog 176 #[kt (V ⟨c,0,Y⟩),kt (V ⟨g,0,Y⟩),kt (V ⟨d,0,Y⟩),kt (V ⟨h,0,Y⟩)] (λx=>#[lR (j3 (Aj (Be x)))]) (Av (Im k s) k s j e) i w:=by
 induction j with
 |nil=>
  intro a e c g d h w i o L l p
  have G:b-a=0:=by
   have:=congrArg List.length l;rw[iN,iH]at this;simp at this;omega
  obtain rfl:a=b:=by omega
  exact TZ m k s f w0 n t _ a e c g d h w i o p
 |cons v j ih=>
  intro a e c g d h w i o L l p
  have G:b-a=Z j+1:=by
   have:=congrArg List.length l;rw[iN,iH]at this;simp at this;omega
  have u:a<b:=by omega
  have I:a<Z (f.take b):=by rw[iH];omega
  rw[ij I]at l;obtain⟨q,z⟩:=List.cons.inj l;rw[kK]at q;exact S8 m k s f w0 n t v j a b e c g d h w i o u A q p (λB D E H N y M C F=>ih (a+1) B D E H N y M C (by omega) z F)
def L9(k:Nat)(d:mc Bi)(s:mc Af)(g:mc UInt8)(w0:l9)(q:aQ w0 k d s g)(b:Nat)(m:b<=Z g)(l:mc UInt8):∀(a:Nat) (e:mc zA) (c h f i:Nat) (w:l9) (j:mc Nat),CQ e->a<=b->(g.take b).drop a=l->Z7 w0 k c h f i a b e j w->
  Kq prog 176 #[kt (V ⟨c,0,Y⟩),kt (V ⟨h,0,Y⟩),kt (V ⟨f,0,Y⟩),kt (V ⟨i,0,Y⟩)] (λx=>#[lR (j3 (Aj (Be x)))]) (Av (Im d s) d s l e) j w:=
 λa e c h f i w j p r o t=>KP k d s g w0 [] (λu n=>q.kept n) b m l a e c h f i w j p r o t.more
def ZA{P:Program}{fn:Func}{p q:Tmp}{a e:TypeId}(h:fn.results=#[.cell p a,.cell q e]){tmps:Array lN}{w:l9}{b:Nat}{cs:mc lN}{t:TypeId}{d:TypeDesc}
  (g:tmps.getD p undef=kt (V ⟨b,0,Y⟩)) (n:AH w b cs t) (m:P.underlying a=V d) (f:d.isRow=j1) (o:(P.info? a).map (·.size)=V (Z cs))
  {c:Nat} {v:lN} (k:tmps.getD q undef=kt (V ⟨c,0,Y⟩)) (i:(loadVar e ⟨c,0,Y⟩).run P w=.ok v w):
  (results fn tmps).run P w=.ok (.tuple #[lR (j3 cs),v]) w:=by
 have l:=run_loadVar_mid (P:=P) w b 0 a cs d n.range m f o;have j:tmps[p]?.getD undef=kt (V ⟨b,0,Y⟩):=by simpa using g
 have r:tmps[q]?.getD undef=kt (V ⟨c,0,Y⟩):=by simpa using k
 simp only[results,h];simp[lh,Result.andThen,j,l,asAddr,r,i]
structure UV(w:l9)(N:Nat)(B:Bool)(X:mc lN)(W:l9):Prop where
 kept:Ac [] w W
 b1:AH W (N+1) X 243
 b2:AH W (N+2) [lT B] 4
def UV.own{w:l9}{N c:Nat}{B:Bool}{X:mc lN}(h:w.heap.size<=c){β:Type}(A:β->Prop):OwnFrom c (fun(s:β) W=>A s/\UV w N B X W):=
 BF (λs W d M a k b=>⟨a.1,DX a.2.kept k b h,a.2.b1.kept k (Ct b a.2.b1),a.2.b2.kept k (Ct b a.2.b2)⟩)
def Ex(x:mc zA)(h:Z x=26):Z (Aj (Be x))=26/\∀u∈Aj (Be x),u.oneCell'=j1:=by
 refine⟨by unfold Aj Be;rw[ie,ie];exact h,λu a=>?_⟩;unfold Aj at a;obtain⟨y,_,rfl⟩:=gX.1 a;rfl
def J3:Aj (Be Bs)=lV 26 (O ⟨#[]⟩):=by
 unfold Aj Be Bs;rw[List.map_replicate,List.map_replicate,O4];rfl
theorem Zx{w:l9}{b:Nat}{B:Bool}(h:AH w b [lT B] 4):(loadVar 4 ⟨b,0,Y⟩).run prog w=.ok (lT B) w:=by
 have c:=h.cell 0;simp at c;simp[go_sem,c,underlying4]
set_option maxRecDepth 100000
theorem Zr(sp:Nat)(n:mc Bi)(s:mc Af)(vs:mc UInt8)(Q H:Nat)(L:mc UInt8)(e:mc zA)(w:l9)(hS:aQ w sp n s vs)(he:CQ e)(K5:Q<=H)(HM:H<=Z vs)(hr:(vs.take H).drop Q=L):
  Calls prog 197 #[kt (V ⟨sp,0,Y⟩),X .i64 Q,X .i64 H,lR (j3 (Aj (Be e)))] w λr z=>∃(x:mc zA) (B:Bool),r=.returned (.tuple #[lR (j3 (Aj (Be x))),lT B])/\Z x=26/\B= !(Av (Im n s) n s L e).isEmpty/\(B=j1->x∈Av (Im n s) n s L e)/\Ac [] w z:=by
 have HG:Hid (∀P v I S f M0,Z7 w sp P v I S Q H e M0 f->Kq prog 176 #[kt (V ⟨P,0,Y⟩),kt (V ⟨v,0,Y⟩),kt (V ⟨I,0,Y⟩),kt (V ⟨S,0,Y⟩)] (λx=>#[lR (j3 (Aj (Be x)))]) (Av (Im n s) n s L e) M0 f):=λP v I S f M0 hB=>L9 sp n s vs w hS H HM L Q e P v I S f M0 he K5 hr hB
 have G:Hid (∀x∈Av (Im n s) n s L e,Z x=26):=Gd L e he.len;obtain⟨F,HY⟩:∃F,Av (Im n s) n s L e=F:=⟨_,rfl⟩;rw[HY]at HG G⊢;have hc:=Bv (Be e);obtain⟨HF,M1⟩:=Ex e he.len;have HH:Hid (∀f,Calls prog 141 #[kt (V ⟨sp,0,Y⟩),X .i64 Q,X .i64 H,lR (j3 (Aj (Be e)))] f λr z=>∃P v I S,r=.returned (.func (.func 176) #[] #[kt (V ⟨P,0,Y⟩),kt (V ⟨v,0,Y⟩),kt (V ⟨I,0,Y⟩),kt (V ⟨S,0,Y⟩)])/\
   AH z P [kt (V ⟨sp,0,Y⟩)] 233/\AH z v (Aj (Be e)) 243/\AH z I [X .i64 Q] 3/\AH z S [X .i64 H] 3/\(f.heap.size<=P/\f.heap.size<=v/\f.heap.size<=I/\f.heap.size<=S)/\Ac [] f z):=λf=>Hr sp Q H _ f hc HF
 have HV:=Ab HF;obtain⟨E,hE⟩:∃E,Aj (Be e)=E:=⟨_,rfl⟩;have MN:=Ab hE;rw[hE]at hc HF HV HH⊢;obtain⟨N,hN⟩:∃N,w.heap.size=N:=⟨_,rfl⟩;have HN:=Ab hN;obtain⟨w1,AT⟩:∃w1,((w.alloc (j2 (j3 E) 243)).alloc (j2 (j3 (lV 26 (O ⟨#[]⟩))) 243)).alloc (j2 #[lT K] 4)=w1:=⟨_,rfl⟩;have Ix:=Ab AT;have H3:Hid (AH w1 N E 243):=by
  have h:=((mf w E 243).alloc (j2 (j3 (lV 26 (O ⟨#[]⟩))) 243)).alloc (j2 #[lT K] 4);rw[AT,hN]at h;exact h
 have BS:Hid (UV w N K (lV 26 (O ⟨#[]⟩)) w1):=by
  refine⟨?_,?_,?_⟩
  .rw[<-AT];exact(((me [] w).alloc _).alloc _).alloc _
  .have h:=(mf (w.alloc (j2 (j3 E) 243)) (lV 26 (O ⟨#[]⟩)) 243).alloc (j2 #[lT K] 4);rw[AT,iz,hN]at h;exact h
  .have h:=mf ((w.alloc (j2 (j3 E) 243)).alloc (j2 (j3 (lV 26 (O ⟨#[]⟩))) 243)) [lT K] 4;rw[iz,iz,hN]at h;rw[<-AT];exact h
 clear HY hE hS he K5 HM hr M1 AT hN;obtain⟨QQ,HJ⟩:∃QQ,JD (bodyPostM Fence.wide 0 prog Tryz.f197 λr z=>∃(x:mc zA) (B:Bool),r=.returned (.tuple #[lR (j3 (Aj (Be x))),lT B])/\Z x=26/\B= !F.isEmpty/\(B=j1->x∈F)/\Ac [] w z)=QQ:=⟨_,rfl⟩;have HX:Hid (∀(EY:Array lN) (D:Nat) (f:l9) (x:mc zA) (B:Bool),EY.getD 8 undef=kt (V ⟨N+1,0,Y⟩)->EY.getD 9 undef=kt (V ⟨N+2,0,Y⟩)->w.heap.size<=D->f.heap[D]?=V (.deferred (V []))->UV w N B (Aj (Be x)) f->Z x=26->B= !F.isEmpty->(B=j1->x∈F)->QQ .ret ⟨EY,[D8 D]⟩ f):=by
  intro EY D f x B h8 h9 hD hd i o hB hm;rw[<-HJ];have H0:C6 w.heap.size [D] f:=⟨by simp,λd EK=>by simp only[gN]at EK;omega,λd EK=>by simp only[gN]at EK;rw[EK];exact hd⟩;refine C5 [D] f H0 (λz hs=>?_);have HA:=(hs.own (UV.own (ig _) (λ_:Unit=>True)) (s:=()) H0 ⟨trivial,i⟩).2;exact⟨_,ZA rfl h8 HA.b1 underlying243 rfl (by rw[(Ex x o).1];exact Tryz.zH) h9 (Zx HA.b2),x,B,rfl,o,hB,hm,HA.kept⟩
 refine Ec func197 rfl (FV ?_);rw[HJ];clear HJ;simp only[ntmps197,i7,gW,iv,Nat.reduceAdd,Nat.reduceSub,jZ,j4,kx,ke,i6,js];refine ma (λK1 B0=>?_);go_wp2;refine B0 _ _ ?_;clear B0 K1;change Code.wp _ _ _ _ (((w.alloc (j2 (j3 E) 243)).alloc (j2 (j3 (lV 26 (O ⟨#[]⟩))) 243)).alloc (j2 #[lT K] 4));rw[Aa Ix,Aa HN];clear Ix;refine ma (λK1 B0=>?_);refine ma (λK2 H8=>?_);go_wp2_with ((with_reducible show wpList _ _ _ ({dst:=_,op:=Op.load 243 _,type:=_,pos:=_,after:=_,guard:=_}::_) _ _);refine BH (by rfl) 243 _ rfl N 0 (by rfl) E _ H3.range underlying243 rfl (by rw[Aa HV];exact Tryz.zH) ?_)
 refine(HH _).mono ?_;rintro _ w3 ⟨d1,d2,d3,d4,rfl,n1,n2,n3,n4,H5,k3⟩;have FC:Hid (UV w N K (lV 26 (O ⟨#[]⟩)) w3):=⟨BS.kept.trans k3,BS.b1.kept k3 (by simp),BS.b2.kept k3 (by simp)⟩;have NM:=BS.b2.lt;have HW:=Aa HG d1 d2 d3 d4 w3 [N+1,N+2] ⟨FC.kept,n1,by rw[Aa MN];exact n2,n3,n4,λq t=>by
  have hn:=Aa HN
  have h3:=k3.size
  obtain⟨g1,g2,g3,g4⟩:=H5
  simp only[gP,iU,or_false]at t
  rcases t with rfl|rfl<;>omega⟩
 have NB:=k3.size;have HO:w.heap.size<=w3.heap.size:=FC.kept.size;clear n1 n2 n3 n4 H5 k3 HG HH H3 BS;go_wp2;refine H8 _ _ ?_;clear H8 K2;refine wp_block ?_;refine Ir (T:=243) (q:=10) rfl (enters_of func176 (by kernel_rfl) rfl) HW (λq t=>by
  simp only[gP,iU,or_false]at t
  rcases t with rfl|rfl<;>omega)
  (λFO M W=>(FO=[]/\M=[N+1,N+2])/\UV w N K (lV 26 (O ⟨#[]⟩)) W) (λc _ _ W=>c=.ret/\∃x,x∈F/\UV w N j1 (Aj (Be x)) W)
  (UV.own HO (λs:mc (mc zA)×mc Nat=>s.1=[]/\s.2=[N+1,N+2])) (λc=>BF (λs W a M hs k hM=>by
   obtain⟨h1,x,o,i⟩:=hs
   exact⟨h1,x,o,DX i.kept k hM HO,i.b1.kept k (Ct hM i.b1),i.b2.kept k (Ct hM i.b2)⟩)) ⟨⟨rfl,rfl⟩,FC⟩ ?rassign ?rbody ?rdone ?rstop
 case rassign=>
  intro l' x a NV o HK;obtain⟨C,AO⟩:=Ex x (G x o);obtain⟨g,A1⟩:∃g,Aj (Be x)=g:=⟨_,rfl⟩;rw[A1]at C AO HK⊢;have B2:=Ab AO;have G:=Ab C;have R:Hid (g.toArray.size=26):=by show _=_;simp[C]
  clear o A1 C AO;simp only[gI,gJ,gK]at HK⊢;refine AG (by rfl) (Hc F0) ?_;go_wp2_with ((with_reducible show wpList _ _ _ ({dst:=_,op:=Op.store 243 _ _,type:=_,pos:=_,after:=_,guard:=_}::_) _ _);refine jO rfl 243 _ _ rfl a.heap.size 0 (j3 g) (by rfl) (by rfl) ?_ ?_ ?_ ?_)
  .have h:=(mf a (lV 26 (O ⟨#[]⟩)) 243).there;simp only[jE]at h;rw[Aa R];exact h
  .rw[Aa R];exact Tryz.zH
  .exact jk B2
  .refine HK _ (((me [] a).alloc (j2 (j3 (lV 26 (O ⟨#[]⟩))) 243)).zJ (b:=a.heap.size) (Or.inr (ig _)) g 0) ?_;exact(mf a (lV 26 (O ⟨#[]⟩)) 243).zU g (by rw[Aa G];simp)
 case rbody=>
  rintro l' Bx FO x NN M a IS ⟨⟨rfl,rfl⟩,i⟩ hM NX HB;have Ha:x∈F:=by rw[IS];simp
  obtain⟨C,AO⟩:=Ex x (G x Ha);obtain⟨g,A1⟩:∃g,Aj (Be x)=g:=⟨_,rfl⟩;have M3:=Ab A1;simp only[A1]at C AO HB⊢;have B2:=Ab AO;have G:=Ab C;have R:Hid (g.toArray.size=26):=by show _=_;simp[C]
  have Nj:=Ab HB;have A:=Ab i;have LB:=Ab Ha;clear i HB C AO A1 IS Ha;simp only[gI,gJ,gK];have m:Hid (AH (a.setCells (N+1) 0 g) (N+1) g 243/\AH (a.setCells (N+1) 0 g) (N+2) [lT K] 4/\Ac [N+1,N+2] a (a.setCells (N+1) 0 g)):=by
   refine⟨A.b1.zU g (by rw[Aa G];simp),?_,(me _ a).zJ (b:=N+1) (lx (by simp)) g 0⟩;exact A.b2.kept ((me [N+1] a).zJ (b:=N+1) (lx (by simp)) g 0) (by simp)
  refine wpIn_block ?_;refine jd (λK3 H4=>?_);have HU:=Ab H4;clear H4;refine AG (by rfl) (by rintro ⟨_,_,h⟩;exact h) ?_;go_wp2_with (first
   |((with_reducible show wpList _ _ _ ({dst:=_,op:=Op.load 243 _,type:=_,pos:=_,after:=_,guard:=_}::_) _ _);refine BH (by rfl) 243 _ rfl Bx 0 (by rfl) g _ Nj.range underlying243 rfl (by rw[Aa G];exact Tryz.zH) ?_)
   |((with_reducible show wpList _ _ _ ({dst:=_,op:=Op.store 243 _ _,type:=_,pos:=_,after:=_,guard:=_}::_) _ _);refine jO rfl 243 _ _ rfl (N+1) 0 (j3 g) (by rfl) (by rfl) (by rw[Aa R];have h:=A.b1.there;simp only[jE]at h;exact h) (by rw[Aa R];exact Tryz.zH) (jk B2) ?_;simp only[kO];generalize a.setCells (N+1) 0 g=W2 at m;have c9:=m.2.1.cell 0;simp at c9;have f9:=m.2.1.frozen 0))
  refine HU _ _ ?_;clear HU K3;refine wpIn_ret ?_;have LM:=m.2.1.set 0 (lT j1);have HT:Ac [N+1,N+2] a (W2.setCell ⟨N+2,0,Y⟩ (lT j1)):=m.2.2.setCell (p:=⟨N+2,0,Y⟩) (lx (by simp)) _;refine⟨HT,[],rfl,x,LB,A.kept.trans' HT (λq t=>Or.inr ?_),?_,LM⟩
  .have hn:=Aa HN;simp only[gP,iU,or_false]at t;rcases t with rfl|rfl<;>omega
  .rw[Aa M3];exact m.1.zB ⟨N+2,0,Y⟩ (by simp) _
 case rdone=>
  rintro D M' a hD ⟨⟨HQ,-⟩,i⟩ hd _;refine B0 _ _ ?_;clear B0;have A:=Ab i;have HD:Hid (w.heap.size<=D/\a.heap[D]?=V (.deferred (V []))):=⟨by omega,hd⟩;have M2:=Ab HQ;clear i hd HQ HW FC;obtain⟨j,hZ⟩:∃j,lV 26 (O ⟨#[]⟩)=j:=⟨_,rfl⟩;have HZ:=Ab hZ;have R:Hid (j.toArray.size=26):=by show _=_;rw[<-hZ];simp
  have B2:Hid (∀u∈j,u.oneCell'=j1):=λu hu=>by rw[<-hZ]at hu;rw[(List.mem_replicate.1 hu).2];rfl
  have LS:Hid (Z j=26):=by show _=_;rw[<-hZ];simp
  rw[hZ]at A;clear hZ;have m:Hid (UV w N K j ((a.setCells (N+1) 0 j).setCell ⟨N+2,0,Y⟩ (lT K))/\((a.setCells (N+1) 0 j).setCell ⟨N+2,0,Y⟩ (lT K)).heap[D]?=V (.deferred (V []))/\AH (a.setCells (N+1) 0 j) (N+2) [lT K] 4):=by
   have k1:Ac [N+1] a (a.setCells (N+1) 0 j):=(me [N+1] a).zJ (b:=N+1) (lx (by simp)) _ 0;have v:=A.b2.kept k1 (by simp);have k2:Ac [N+1,N+2] a ((a.setCells (N+1) 0 j).setCell ⟨N+2,0,Y⟩ (lT K)):=(k1.mono (by simp)).setCell (p:=⟨N+2,0,Y⟩) (lx (by simp)) _;have K8:D∉[N+1,N+2]:=by
    intro h;simp only[gP,iU,or_false]at h;have:=Aa HN;rcases h with rfl|rfl<;>omega
   refine⟨⟨A.kept.trans' k2 (λq t=>Or.inr ?_),(A.b1.zU _ (by simp)).zB ⟨N+2,0,Y⟩ (by simp) _,v.set 0 _⟩,(k2.block D (iK.1 HD.2).1 K8).trans HD.2,v⟩;have hn:=Aa HN;simp only[gP,iU,or_false]at t;rcases t with rfl|rfl<;>omega
  go_wp2_with ((with_reducible show wpList _ _ _ ({dst:=_,op:=Op.store 243 _ _,type:=_,pos:=_,after:=_,guard:=_}::_) _ _);refine jO rfl 243 _ _ rfl (N+1) 0 (j3 j) (by rfl) (by rw[<-Aa HZ];rfl) (by rw[Aa R];have h:=A.b1.there;rw[Aa LS]at h;exact h) (by rw[Aa R];exact Tryz.zH) (jk B2) ?_;simp only[kO];generalize a.setCells (N+1) 0 j=W2 at m;have c9:=m.2.2.cell 0;simp at c9;have f9:=m.2.2.frozen 0)
  refine HX _ D _ Bs K rfl rfl HD.1 m.2.1 ?_ rfl (by rw[Aa M2];rfl) (λh=>by cases h);rw[J3,Aa HZ];exact m.1
 case rstop=>
  rintro D c FO M' a hD ⟨rfl,x,o,i⟩ hd;refine wp_ret ?_;refine HX _ D _ x j1 rfl rfl (by omega) hd i (G x o) ?_ (λ_=>o);cases F with
  |nil=>simp at o
  |cons y l=>rfl
end Go.Proofs.YtoihbhenbmffcaaGreatDoor
namespace Go.Proofs.YtoihbhenbmffcaaGreatDoor
open Go.RowKit Go.Proofs.Tryz
def bm(acc:mc UInt8)(t:AE):Wn (Cw acc) (ct t)=Cw (Ff acc t):=by
 have f:(ct t).v=(t.v.toNat:Int):=rfl;have c:(ct t).v≠0↔(t.v !=0)=j1:=by
  have:=Xq t;rw[jl,jA,jA]at this;simp[this]
 have b:(ct t).v∈Cw acc↔acc.contains t.v=j1:=by
  rw[lI,f];unfold Cw;constructor
  .intro h;obtain⟨u,d,e⟩:=gX.1 h;have:u=t.v:=jp.1 (by omega);rw[<-this];exact d
  .intro h;exact gX.2 ⟨t.v,h,rfl⟩
 unfold Wn Ff;by_cases a:(t.v !=0&& !acc.contains t.v)=j1
 .rw[gY a];rw[iq]at a;rw[gY ⟨c.2 a.1,λh=>by rw[b.1 h]at a;simp at a⟩];unfold Cw;rw[iG];rfl
 .rw[gV a,gV (λh=>a (by rw[iq];exact⟨c.1 h.1,by cases hcc:acc.contains t.v with|true=>exact absurd (b.2 hcc) h.2|false=>rfl⟩))]
def PM:∀(a:mc AE) (b:mc UInt8),(a.map ct).foldl Wn (Cw b)=Cw (Fp b a)
 |[],b=>rfl
 |t::a,b=>by
  rw[ii,iA,bm,PM a];rfl
def Qx(ts:mc AE):Dp (ts.map ct)=Cw (Fp [] ts):=PM ts []
def Zg(r:A6):Gq r=r.head.args++(Ak r).flatMap Bm:=by
 unfold Gq Ak;rw[List.flatMap_map]
 congr 1
def Fa{al:UInt8->mc zA->mc zA}{f:mc Bi}{s:mc Af}(d:∀v e,∀t∈al v e,A3 t):∀(c:mc UInt8) (e:mc zA),CQ e->∀b∈Av al f s c e,CQ b
 |[],e,he,b,a=>by
  rw[Av]at a;split at a
  .simp at a
  .rw[gN]at a;rw[a];exact he
 |v::c,e,he,b,a=>by
  rw[Av]at a;split at a
  .simp at a
  .obtain⟨t,g,a⟩:=iI.1 a;exact Fa d c _ (he.set _ (d v e t g)) b a
def Ln{al:UInt8->mc zA->mc zA}{r:A6}{n:mc UInt8}{s:mc Af}(i:∀v e,∀t∈al v e,A3 t)(f:Rc r (Ce r) n)(g:Lh r.head){b:mc zA}(j:b∈Av al (Ak r) s (Ce r) Bs):∀t∈r.head.args,A3 (AR b t):=by
 intro t c;have m:=BG (λv e t c=>(i v e t c).size) (Ce r) Bs b rfl (λv k=>(f.ok v (lx k)).1) j;have l:=Fa i (Ce r) Bs CQ.start b j;rcases l.val (g.args t c)with h|h
 .exfalso
  by_cases d:t.v=0
  .unfold AR at h;rw[gY d]at h;rcases g.args t c with⟨_,a⟩|⟨a,_⟩
   .exact a.size h
   .rw[d]at a;exact absurd a (by decide)
  .rw[Eh d]at h;rcases f.head t c with a|a
   .exact d a
   .exact m.2.2.2 _ a h
 .exact h
def Zm{e:mc zA}{r:A6}{c:Db}(a:QH c r)(d:Lh r.head)(f:∀t∈r.head.args,A3 (AR e t)):(⟨c.hn,c.zE.map (Bz (Be e))⟩:CG)=BN (AB e r.head):=by
 unfold BN AB;simp only;rw[a.hn,a.zE,iX,iX]
 congr 1
 refine iY (λt b=>?_);simp only[Function.comp];rw[Hd (d.args t b),Cv (f t b)]
def LF(al:UInt8->mc zA->mc zA)(r:A6)(s:mc Af)(bs:mc (mc zA)):mc Af:=
 (bs.filter λb=> !D9 s (AB b r.head)&& !(Av al (Ak r) s (CY r) b).isEmpty).map λb=>AB b r.head
def RZ(al:UInt8->mc zA->mc zA)(r:A6)(s:mc Af):LF al r s (Av al (Ak r) s (Ce r) Bs)=QT al r (Ce r) (CY r) s:=rfl
def WQ(al:UInt8->mc zA->mc zA)(r:A6)(s:mc Af)(a:mc (mc zA))(b:mc zA):LF al r s (a++[b])=LF al r s a++if(!D9 s (AB b r.head)&& !(Av al (Ak r) s (CY r) b).isEmpty)=j1 then[AB b r.head] else[]:=by
 unfold LF;rw[jX,iG]
 congr 1
 simp only[jt,List.filter_nil];split<;>rfl
structure Pr(c:Db)(r:A6)(s:mc Af):Prop where
 zs:QH c r
 fit:OX c
 zQ:Z (Br c)<=90000
 lits:∀x∈Ak r,Do x/\OK (KF x)
 parts:Rc r (Ce r) (CY r)
 head:Lh r.head
 fitA:XI s (Ak r)
 canon:∀f∈s,AJ f
 len:Z s<=10000
def Pr.al{c:Db}{r:A6}{s:mc Af}(h:Pr c r s):∀v e,∀t∈Im (Ak r) s v e,A3 t:=λv e t a=>Iq h.canon h.fitA v e t ((ER (Ak r) s v e t).1 a)
def Pr.order{c:Db}{r:A6}{s:mc Af}(h:Pr c r s):Dp (Br c)=Cw (Ce r++CY r):=by
 rw[h.zs.zQ,Qx,Zg,Ns]
def Pr.ofHead{c:Db}{r:A6}{s:mc Af}(h:Pr c r s):Dp c.zE=Cw (Ce r):=by
 rw[h.zs.zE,Qx];rfl
def F6(a:mc UInt8):Z (Cw a)=Z a:=by unfold Cw;simp
def F2.fst{a:mc Ks}{bl:mc Bj}(h:F2 Sg a bl):a.map Prod.fst=(bl.map Prod.fst).map KF:=by
 induction h using F2.ind with
 |nil=>rfl
 |cons h1 _ ih=>simp only[ii,ih,h1.eq]
def Vq:∀(b:mc AE) (a:mc UInt8),Z (Fp a b)<=Z a+Z b
 |[],a=>by simp[Fp]
 |t::b,a=>by
  have c:=Vq b (Ff a t);have d:Z (Ff a t)<=Z a+1:=by unfold Ff;split<;>simp
  have e:Fp a (t::b)=Fp (Ff a t) b:=rfl;rw[e,gW];omega
def Pr.z9{c:Db}{r:A6}{s:mc Af}(h:Pr c r s):Z (Ce r++CY r)<=26:=by
 have b:=(D0 (r.head.args++(Ak r).flatMap Bm) [] jT).2.1;rw[Ns]at b;have d:=Ju (Ce r++CY r) ((List.range 26).map λi=>UInt8.ofNat (i+65)) b (λv e=>by
  have a:=(h.parts.ok v (ic.1 e)).1
  refine gX.2 ⟨v.toNat-65,k0.2 (by have:=a.1;have:=a.2;omega),?_⟩
  apply jp.1
  rw[UInt8.toNat_ofNat']
  have:=a.1
  have:=a.2
  omega)
 simpa using d
def Pr.sea{c:Db}{r:A6}{s:mc Af}(h:Pr c r s){w:l9}{f k j:Nat}{e:Option Addr}{b:Nat}{d:Option Addr}{a:Nat}{l:Option Addr}{i:Nat}{fs:mc EN}(g:Om w f k j (U e (Z c.zD) b) (U d (Z (Dp (Br c))) a) l i fs)(t:BP w 0 (U e (Z c.zD) b) c.zD)(m:w.ownsRow 0 21 1 (U d (Z (Dp (Br c))) a) (Z (Dp (Br c))) ((Dp (Br c)).flatMap AP))(n:Dc fs s):aQ w f (Ak r) s (Ce r++CY r):=by
 have p:Z (Ak r)<=1000:=by
  have q:=congrArg List.length (F2.fst h.zs.lits);have u:=h.fit.lits;unfold Ak;simp at q⊢;omega
 rw[h.order]at g m;exact⟨⟨k,j,e,b,c.zD,d,a,l,i,fs,g,t,F2.fst h.zs.lits,m,n⟩,h.len,h.lits,p,by have:=h.z9;omega,h.fitA,λv o=>(h.parts.ok v (ic.1 o)).1⟩
structure Ti where
 f:EN
 n:lN
 ns:mc EN
structure Kg(w:l9)(st:Ti):Prop where
 pf:DS w st.f
 len:Z st.f.f.zC<=1000
 nds:Iw w st.n st.ns
 sl:∃a c,st.n=U a (Z st.ns) c
def Kg.map{w w':l9}{st:Ti}(h:Kg w st)(f:∀p,DS w p->DS w' p)(g:w.ownsRow 0 104 2 st.n (Z st.ns) (st.ns.flatMap AW)->w'.ownsRow 0 104 2 st.n (Z st.ns) (st.ns.flatMap AW)):Kg w' st:=
 ⟨f _ h.pf,h.len,⟨g h.nds.row,λp a=>⟨f p (h.nds.each p a).1,(h.nds.each p a).2⟩⟩,h.sl⟩
def Kg.kept{w w':l9}{st:Ti}(h:Kg w st)(k:Ac [] w w'):Kg w' st:=h.map (λp a=>a.kept k) (λb=>Ad b k (by simp))
def fS(r:A6)(s:mc Af)(f:CG)(ns:mc CG):Prop:=∃σ,(∀x∈Ak r,CH (Bu σ) (Eb σ) s x=j1)/\AJ (Bu σ r.head)/\f=BN (Bu σ r.head)/\ns=(CI r σ).pos.map BN
def cA(B:Nat)(r:A6)(s:mc Af)(st:Ti):Prop:=(∀q,st.n.ownBlock=V q->B<=q)/\fS r s st.f.f (st.ns.map EN.f)
def dO{c:Db}{r:A6}{s:mc Af}(h:Pr c r s){b a:mc zA}(l:b∈Av (Im (Ak r) s) (Ak r) s (Ce r) Bs)(u:a∈Av (Im (Ak r) s) (Ak r) s (CY r) b):
  fS r s (BN (AB b r.head)) (IP (Be a) ((Ak r).map KF)):=by
 have i:=h.parts;have w:∀v e,∀t∈Im (Ak r) s v e,t.size≠0:=λv e t d=>(h.al v e t d).size
 obtain⟨F,_,_,G⟩:=BG w (Ce r) Bs b rfl (λv j=>(i.ok v (lx j)).1) l;obtain⟨H,p,E,y⟩:=BG w (CY r) b a F (λv j=>(i.ok v (Or.inr j)).1) u;have q:∀v∈Ce r,OI a v=OI b v:=λv j=>E v (i.ok v (lx j)).1 (i.apart v j)
 have D:CQ a:=Fa h.al _ _ (Fa h.al _ _ CQ.start b l) a u;have o:∀x∈Ak r,∀t∈Bm x,(AR a t).size≠0:=by
  intro x g t d;by_cases f:t.v=0
  .rcases i.lits x g t d with h|h
   .unfold AR;rw[gY f];exact h.2
   .rw[f]at h;exact absurd h.1 (by decide)
  .rw[Eh f];rcases i.body x g t d with h|h|h
   .exact absurd h f
   .rw[q _ h];exact G _ h
   .exact y _ h
 have m:AB b r.head=Bu (Iv a) r.head:=by
  unfold AB Bu
  congr 1
  refine iY (λt d=>?_);rw[Gl];by_cases f:t.v=0
  .unfold AR;rw[gY f,gY f]
  .rw[Eh f,Eh f];rcases i.head t d with h|h
   .exact absurd h f
   .exact(q _ h).symm
 refine⟨Iv a,λx g=>?_,by rw[<-m];exact F9 (Ln h.al h.parts h.head l),by rw[m],?_⟩
 .have C:Di a (Bm x)=j1:=by
   unfold Di;rw[ji];intro t d;cases hE:Tj (AR a t)with
   |false=>rfl
   |true=>exact absurd ((DC _).1 hE) (o x g t d)
  have z:CH (AB a) (AR a) s x=j1:=by
   unfold DL at p;have:=(ju.1 p) x g;rw[C,jq]at this;simpa using this
  rw[<-G6 (e:=a) (σ:=Iv a) (λt d=>(Gl a t).symm)];exact z
 .unfold IP CI;simp only;rw[List.filter_map,iX,iX];have B:(Ak r).filter ((λx:PL=>x.sort==0)∘KF)=(Ak r).filter λx=>x.kind==97:=by
   refine List.filter_congr (λx _=>?_);show(Fs x.kind==0)=(x.kind==97);exact Ri x.kind
  rw[B];refine iY (λx g=>?_);obtain⟨g,n⟩:=ir.1 g;have k:=(h.lits x g).1;unfold Do at k;rw[gY (by rw[n];rfl)]at k;show(⟨x.A.name,(x.A.args.map ct).map (Bz (Be a))⟩:CG)=BN (Bu (Iv a) x.A);unfold BN Bu;simp only;rw[iX,iX]
  congr 1
  refine iY (λt d=>?_);simp only[Function.comp];rw[Hd (k.args t d),Gl];refine Cv ?_;rcases D.val (k.args t d)with h|h
  .exact absurd h (o x g t (by unfold Bm;rw[gY (by rw[n];rfl)];exact d))
  .exact h
def Sz{B:Nat}{r:A6}{s:mc Af}:∀(b:mc Ti) (L:mc Af),b.map (λa=>a.f.f)=L.map BN->(∀f∈L,AJ f)->(∀a∈b,cA B r s a)->
  ∃c:mc (Gr Af),c.map Gr.head=L/\(∀i∈c,∃σ,(∀x∈Ak r,CH (Bu σ) (Eb σ) s x=j1)/\i=CI r σ)/\b.map (λa=>(a.f.f,a.ns.map EN.f))=c.map λi=>(BN i.head,i.pos.map BN)
 |[],[],_,_,_=>⟨[],rfl,λi d=>by simp at d,rfl⟩
 |[],_::_,h,_,_=>by simp at h
 |_::_,[],h,_,_=>by simp at h
 |a::b,f::L,h,hL,hs=>by
  simp only[ii,jB]at h;obtain⟨c,o,n,p⟩:=Sz b L h.2 (λg q=>hL g (by simp[q])) (λx t=>hs x (by simp[t]));obtain⟨_,σ,l,k,e,j⟩:=hs a (by simp);have m:Bu σ r.head=f:=My k (hL f (by simp)) (by rw[<-e,h.1]);refine⟨CI r σ::c,?_,?_,?_⟩
  .simp only[ii,o];rw[show(CI r σ).head=f from m]
  .intro i d;rcases gP.1 d with rfl|d
   .exact⟨σ,l,rfl⟩
   .exact n i d
  .simp only[ii,p];rw[j,e];rfl
def JV(k:Nat)(st:Ti):mc lN:=[O st.f.f.name,st.f.tv,X .i64 k,st.n]
section
variable {P:Program} {ops:Array Oper} {Q:Exit->Act->l9->Prop} {md:Region.Mode} {S:l9->Prop} {k:Nat}
def Cx.two{i j:Nat}{g l:Oper}{fuel:Nat}{e:Array Bool}{a:Act}{w:l9}(p:Region.ready md ops e=[i,j])(y:ops[i]?=V g)(t:ops[j]?=V l)
  (z:∀c:Act->l9->Prop,Hid (∀d b,(i≠k->S b)->Cx P md ops Q S k fuel (e.setIfInBounds i j1) d b->c d b)->
   if Region.wanted g (yielded ops a.tmps)=j1 then g.wp P a w c Q else c (a.put g.dst undef) w)
  (v:∀c:Act->l9->Prop,Hid (∀d b,(j≠k->S b)->Cx P md ops Q S k fuel (e.setIfInBounds j j1) d b->c d b)->
   if Region.wanted l (yielded ops a.tmps)=j1 then l.wp P a w c Q else c (a.put l.dst undef) w):Cx P md ops Q S k (fuel+1) e a w:=by
 have r:∀(q:Nat) (o:Oper),ops[q]?=V o->(∀c:Act->l9->Prop,Hid (∀d b,(q≠k->S b)->Cx P md ops Q S k fuel (e.setIfInBounds q j1) d b->c d b)->
   if Region.wanted o (yielded ops a.tmps)=j1 then o.wp P a w c Q else c (a.put o.dst undef) w)->wpOp P ops Q q (λd b=>(q≠k->S b)/\Cx P md ops Q S k fuel (e.setIfInBounds q j1) d b) a w:=by
  intro q o u h;have f:=h _ (λd b x f=>And.intro x f);unfold wpOp;simp only[u];split
  .rename_i m;rw[gY m]at f;exact .inl f
  .rename_i m;rw[gV m]at f;exact f
 refine⟨λs=>(by rw[p]at s;cases s),λq n=>?_⟩;rw[p]at n;simp only[gP,iU,or_false]at n;rcases n with rfl|rfl
 .exact r _ _ y z
 .exact r _ _ t v
end
