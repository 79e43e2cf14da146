import Derived.Test.YtoihbhenbmffcaaGreatDoorFAV
set_option linter.all false
set_option maxHeartbeats 0
open List renaming length->Z,toArray->ml,replicate->pG
open Option renaming none->Y,some->V
open Go.Value renaming slice->U,int->X,string->O,pointer->m2,agg->pC,bool->pE
open Bool renaming false->K,true->jj
open Go.Obj renaming cells->j3
open Or renaming inl->oi
open Go renaming World->py,Value->p5
namespace Go.Proofs.YtoihbhenbmffcaaGreatDoor
open Go.RowKit Go.Proofs.Tryz
variable{P:Program}{w:py}{b n:Nat}{y:pM p5}{T:TypeId}{z:p5}{B:Bool}
def L6(m:Nat)(k:pM Br)(s:pM Af)(f:pM UInt8)(o:py)(n:pM Nat)(u:∀t,Ac n o t->dU t m k s f)(b:Nat)(B:b<=Z f)(j:pM UInt8):∀(a:Nat) (e:pM zA) (c g d h:Nat) (w:py) (i:pM Nat),Di e->a<=b->(f.take b).drop a=j->Vf o n m c g d h a b e i w->
  Lx prog 176 #[m2 (V ⟨c,0,Y⟩),m2 (V ⟨g,0,Y⟩),m2 (V ⟨d,0,Y⟩),m2 (V ⟨h,0,Y⟩)] (λx=>#[pC (ml (Aj (Bn x)))]) (Aw (Jc k s) k s j e) i w:=by
 induction j with
 |nil=>
  intro a e c g d h w i p N l q
  have H:b-a=0:=by
   have:=congrArg List.length l;rw[mf,l9]at this;simp at this;omega
  obtain rfl:a=b:=by omega
  exact VF m k s f o n u _ a e c g d h w i p q
 |cons v j ih=>
  intro a e c g d h w i p N l q
  have H:b-a=Z j+1:=by
   have:=congrArg List.length l;rw[mf,l9]at this;simp at this;omega
  have y:a<b:=by omega
  have L:a<Z (f.take b):=by rw[l9];omega
  rw[lD L]at l;obtain⟨r,A⟩:=List.cons.inj l;rw[od]at r;exact US m k s f o n u v j a b e c g d h w i p y B r q (λC E F I P z M D G=>ih (a+1) C E F I P z M D (by omega) A G)
def Nr(k:Nat)(d:pM Br)(s:pM Af)(g:pM UInt8)(l:py)(r:dU l k d s g)(b:Nat)(n:b<=Z g)(m:pM UInt8):∀(a:Nat) (e:pM zA) (c h f i:Nat) (w:py) (j:pM Nat),Di e->a<=b->(g.take b).drop a=m->dl l k c h f i a b e j w->
  Lx prog 176 #[m2 (V ⟨c,0,Y⟩),m2 (V ⟨h,0,Y⟩),m2 (V ⟨f,0,Y⟩),m2 (V ⟨i,0,Y⟩)] (λx=>#[pC (ml (Aj (Bn x)))]) (Aw (Jc d s) d s m e) j w:=
 λa e c h f i w j q t p u=>L6 k d s g l [] (λv o=>r.kept o) b n m a e c h f i w j q t p u.more
def cw{f:Func}{p q:Tmp}{c e:TypeId}(h:f.results=#[.cell p c,.cell q e]){a:Array p5}{d:TypeDesc}
  (i:a.getD p undef=m2 (V ⟨b,0,Y⟩)) (r:AF w b y T) (o:P.underlying c=V d) (g:d.isRow=jj) (s:(P.info? c).map (·.size)=V (Z y))
    (l:a.getD q undef=m2 (V ⟨n,0,Y⟩)) (j:(loadVar e ⟨n,0,Y⟩).run P w=.ok z w):
  (results f a).run P w=.ok (.tuple #[pC (ml y),z]) w:=by
 have m:=run_loadVar_mid (P:=P) w b 0 c y d r.range o g s;have k:a[p]?.getD undef=m2 (V ⟨b,0,Y⟩):=by simpa using i
 have u:a[q]?.getD undef=m2 (V ⟨n,0,Y⟩):=by simpa using l
 simp only[results,h];simp[oV,Result.andThen,k,m,asAddr,u,j]
structure WI(w:py)(N:Nat)(B:Bool)(X:pM p5)(W:py):Prop where
 kept:Ac [] w W
 b1:AF W (N+1) X 243
 b2:AF W (N+2) [pE B] 4
def WI.own{N c:Nat}(h:w.heap.size<=c){β:Type}(A:β->Prop):OwnFrom c (fun(s:β) W=>A s/\WI w N B y W):=
 BO (λs W d M a k b=>⟨a.1,Eo a.2.kept k b h,a.2.b1.kept k (CY b a.2.b1),a.2.b2.kept k (CY b a.2.b2)⟩)
def EU(x:pM zA)(h:Z x=26):Z (Aj (Bn x))=26/\∀u∈Aj (Bn x),u.oneCell'=jj:=by
 refine⟨by unfold Aj Bn;rw[lm,lm];exact h,λu a=>?_⟩;unfold Aj at a;obtain⟨y,_,rfl⟩:=lk.1 a;rfl
def KY:Aj (Bn Bk)=pG 26 (O ⟨#[]⟩):=by
 unfold Aj Bn Bk;rw[List.map_replicate,List.map_replicate,Qp];rfl
theorem cm(h:AF w b [pE B] 4):(loadVar 4 ⟨b,0,Y⟩).run prog w=.ok (pE B) w:=by
 have c:=h.cell 0;simp at c;simp[go_sem,c,underlying4]
set_option maxRecDepth 100000
theorem cc(sp:Nat)(n:pM Br)(s:pM Af)(vs:pM UInt8)(Q H:Nat)(L:pM UInt8)(e:pM zA)(w:py)(hS:dU w sp n s vs)(he:Di e)(IS:Q<=H)(HG:H<=Z vs)(hr:(vs.take H).drop Q=L):
  Calls prog 197 #[m2 (V ⟨sp,0,Y⟩),X .i64 Q,X .i64 H,pC (ml (Aj (Bn e)))] w λr z=>∃(x:pM zA) (B:Bool),r=.returned (.tuple #[pC (ml (Aj (Bn x))),pE B])/\Z x=26/\B= !(Aw (Jc n s) n s L e).isEmpty/\(B=jj->x∈Aw (Jc n s) n s L e)/\Ac [] w z:=by
 have HA:Hid (∀P v I S f M0,dl w sp P v I S Q H e M0 f->Lx prog 176 #[m2 (V ⟨P,0,Y⟩),m2 (V ⟨v,0,Y⟩),m2 (V ⟨I,0,Y⟩),m2 (V ⟨S,0,Y⟩)] (λx=>#[pC (ml (Aj (Bn x)))]) (Aw (Jc n s) n s L e) M0 f):=λP v I S f M0 hB=>Nr sp n s vs w hS H HG L Q e P v I S f M0 he IS hr hB
 have G:Hid (∀x∈Aw (Jc n s) n s L e,Z x=26):=GN L e he.len;obtain⟨F,HT⟩:=pN (Aw (Jc n s) n s L e);rw[HT]at HA G⊢;have hc:=Bp (Bn e);obtain⟨Ha,LC⟩:=EU e he.len;have HB:Hid (∀f,Calls prog 141 #[m2 (V ⟨sp,0,Y⟩),X .i64 Q,X .i64 H,pC (ml (Aj (Bn e)))] f λr z=>∃P v I S,r=.returned (.func (.func 176) #[] #[m2 (V ⟨P,0,Y⟩),m2 (V ⟨v,0,Y⟩),m2 (V ⟨I,0,Y⟩),m2 (V ⟨S,0,Y⟩)])/\
   AF z P [m2 (V ⟨sp,0,Y⟩)] 233/\AF z v (Aj (Bn e)) 243/\AF z I [X .i64 Q] 3/\AF z S [X .i64 H] 3/\(f.heap.size<=P/\f.heap.size<=v/\f.heap.size<=I/\f.heap.size<=S)/\Ac [] f z):=λf=>IQ sp Q H _ f hc Ha
 have HQ:=Ab Ha;obtain⟨E,hE⟩:=pN (Aj (Bn e));have K9:=Ab hE;rw[hE]at hc Ha HQ HB⊢;obtain⟨N,hN⟩:=pN w.heap.size;have HN:=Ab hN;obtain⟨w1,AH⟩:=pN (((w.alloc (j3 (ml E) 243)).alloc (j3 (ml (pG 26 (O ⟨#[]⟩))) 243)).alloc (j3 #[pE K] 4));have H5:=Ab AH;have HX:Hid (AF w1 N E 243):=by
  have h:=((pP w E 243).alloc (j3 (ml (pG 26 (O ⟨#[]⟩))) 243)).alloc (j3 #[pE K] 4);rw[AH,hN]at h;exact h
 have A2:Hid (WI w N K (pG 26 (O ⟨#[]⟩)) w1):=by
  refine⟨?_,?_,?_⟩
  .rw[<-AH];exact(((pO [] w).alloc _).alloc _).alloc _
  .have h:=(pP (w.alloc (j3 (ml E) 243)) (pG 26 (O ⟨#[]⟩)) 243).alloc (j3 #[pE K] 4);rw[AH,lT,hN]at h;exact h
  .have h:=pP ((w.alloc (j3 (ml E) 243)).alloc (j3 (ml (pG 26 (O ⟨#[]⟩))) 243)) [pE K] 4;rw[lT,lT,hN]at h;rw[<-AH];exact h
 clear HT hE hS he IS HG hr LC AH hN;obtain⟨QQ,HE⟩:=pN (Kr (bodyPostM Fence.wide 0 prog Tryz.f197 λr z=>∃(x:pM zA) (B:Bool),r=.returned (.tuple #[pC (ml (Aj (Bn x))),pE B])/\Z x=26/\B= !F.isEmpty/\(B=jj->x∈F)/\Ac [] w z));have HS:Hid (∀(EK:Array p5) (D:Nat) (f:py) (x:pM zA) (B:Bool),EK.getD 8 undef=m2 (V ⟨N+1,0,Y⟩)->EK.getD 9 undef=m2 (V ⟨N+2,0,Y⟩)->w.heap.size<=D->f.heap[D]?=V (.deferred (V []))->WI w N B (Aj (Bn x)) f->Z x=26->B= !F.isEmpty->(B=jj->x∈F)->QQ .ret ⟨EK,[EA D]⟩ f):=by
  intro EK D f x B h8 h9 hD hd i o hB hm;rw[<-HE];have HU:Dv w.heap.size [D] f:=⟨by simp,λd CL=>by simp only[kY]at CL;omega,λd CL=>by simp only[kY]at CL;rw[CL];exact hd⟩;refine Du [D] f HU (λz hs=>?_);have FP:=(hs.own (WI.own (lC _) (λ_:Unit=>True)) (s:=()) HU ⟨trivial,i⟩).2;exact⟨_,cw rfl h8 FP.b1 underlying243 rfl (by rw[(EU x o).1];exact Tryz.zG) h9 (cm FP.b2),x,B,rfl,o,hB,hm,FP.kept⟩
 refine EC func197 rfl (Gt ?_);rw[HE];clear HE;simp only[ntmps197,mE,lj,lO,Nat.reduceAdd,Nat.reduceSub,nL,nM,oh,nR,mw,mV];refine pL (λK1 BS=>?_);go_wp2;refine BS _ _ ?_;clear BS K1;change Code.wp _ _ _ _ (((w.alloc (j3 (ml E) 243)).alloc (j3 (ml (pG 26 (O ⟨#[]⟩))) 243)).alloc (j3 #[pE K] 4));rw[Aa H5,Aa HN];clear H5;refine pL (λK1 BS=>?_);refine pL (λK2 H3=>?_);go_wp2_with ((with_reducible show wpList _ _ _ ({dst:=_,op:=Op.load 243 _,type:=_,pos:=_,after:=_,guard:=_}::_) _ _);refine BR (by rfl) 243 _ rfl N 0 (by rfl) E _ HX.range underlying243 rfl (by rw[Aa HQ];exact Tryz.zG) ?_)
 refine(HB _).mono ?_;rintro _ w3 ⟨d1,d2,d3,d4,rfl,n1,n2,n3,n4,H0,k3⟩;have EY:Hid (WI w N K (pG 26 (O ⟨#[]⟩)) w3):=⟨A2.kept.trans k3,A2.b1.kept k3,A2.b2.kept k3⟩;have M1:=A2.b2.lt;have HR:=Aa HA d1 d2 d3 d4 w3 [N+1,N+2] ⟨EY.kept,n1,by rw[Aa K9];exact n2,n3,n4,λq t=>by
  have hn:=Aa HN
  have h3:=k3.size
  obtain⟨g1,g2,g3,g4⟩:=H0
  simp only[kZ,mr,or_false]at t
  rcases t with rfl|rfl<;>omega⟩
 have MN:=k3.size;have HH:w.heap.size<=w3.heap.size:=EY.kept.size;clear n1 n2 n3 n4 H0 k3 HA HB HX A2;go_wp2;refine H3 _ _ ?_;clear H3 K2;refine wp_block ?_;refine Jh (T:=243) (q:=10) rfl (enters_of func176 (by kernel_rfl) rfl) HR (λq t=>by
  simp only[kZ,mr,or_false]at t
  rcases t with rfl|rfl<;>omega)
  (λFB M W=>(FB=[]/\M=[N+1,N+2])/\WI w N K (pG 26 (O ⟨#[]⟩)) W) (λc _ _ W=>c=.ret/\∃x,x∈F/\WI w N jj (Aj (Bn x)) W)
  (WI.own HH (λs:pM (pM zA)×pM Nat=>s.1=[]/\s.2=[N+1,N+2])) (λc=>BO (λs W a M hs k hM=>by
   obtain⟨h1,x,o,i⟩:=hs
   exact⟨h1,x,o,Eo i.kept k hM HH,i.b1.kept k (CY hM i.b1),i.b2.kept k (CY hM i.b2)⟩)) ⟨⟨rfl,rfl⟩,EY⟩ ?rassign ?rbody ?rdone ?rstop
 case rassign=>
  intro l' x a M6 o HK;obtain⟨C,AB⟩:=EU x (G x o);obtain⟨g,AT⟩:=pN (Aj (Bn x));rw[AT]at C AB HK⊢;have BT:=Ab AB;have G:=Ab C;have R:Hid (g.toArray.size=26):=by show _=_;simp[C]
  clear o AT C AB;simp only[kR,kT,kU]at HK⊢;refine AM (by rfl) (Iw Gz) ?_;go_wp2_with ((with_reducible show wpList _ _ _ ({dst:=_,op:=Op.store 243 _ _,type:=_,pos:=_,after:=_,guard:=_}::_) _ _);refine nj rfl 243 _ _ rfl a.heap.size 0 (ml g) (by rfl) (by rfl) ?_ ?_ ?_ ?_)
  .have h:=(pP a (pG 26 (O ⟨#[]⟩)) 243).there;simp only[m9]at h;rw[Aa R];exact h
  .rw[Aa R];exact Tryz.zG
  .exact mL BT
  .refine HK _ (((pO [] a).alloc (j3 (ml (pG 26 (O ⟨#[]⟩))) 243)).zI (b:=a.heap.size) (Or.inr (lC _)) g 0) ?_;exact(pP a (pG 26 (O ⟨#[]⟩)) 243).zP g (by rw[Aa G];simp)
 case rbody=>
  rintro l' Bx FB x M2 M a H7 ⟨⟨rfl,rfl⟩,i⟩ hM Nd FT;have FO:x∈F:=by rw[H7];simp
  obtain⟨C,AB⟩:=EU x (G x FO);obtain⟨g,AT⟩:=pN (Aj (Bn x));have LL:=Ab AT;simp only[AT]at C AB FT⊢;have BT:=Ab AB;have G:=Ab C;have R:Hid (g.toArray.size=26):=by show _=_;simp[C]
  have L0:=Ab FT;have A:=Ab i;have KB:=Ab FO;clear i FT C AB AT H7 FO;simp only[kR,kT,kU];have m:Hid (AF (a.setCells (N+1) 0 g) (N+1) g 243/\AF (a.setCells (N+1) 0 g) (N+2) [pE K] 4/\Ac [N+1,N+2] a (a.setCells (N+1) 0 g)):=by
   refine⟨A.b1.zP g (by rw[Aa G];simp),?_,(pO _ a).zI (b:=N+1) (oi (by simp)) g 0⟩;exact A.b2.kept ((pO [N+1] a).zI (b:=N+1) (oi (by simp)) g 0)
  refine wpIn_block ?_;refine mM (λK3 HY=>?_);have HP:=Ab HY;clear HY;refine AM (by rfl) (by rintro ⟨_,_,h⟩;exact h) ?_;go_wp2_with (first
   |((with_reducible show wpList _ _ _ ({dst:=_,op:=Op.load 243 _,type:=_,pos:=_,after:=_,guard:=_}::_) _ _);refine BR (by rfl) 243 _ rfl Bx 0 (by rfl) g _ L0.range underlying243 rfl (by rw[Aa G];exact Tryz.zG) ?_)
   |((with_reducible show wpList _ _ _ ({dst:=_,op:=Op.store 243 _ _,type:=_,pos:=_,after:=_,guard:=_}::_) _ _);refine nj rfl 243 _ _ rfl (N+1) 0 (ml g) (by rfl) (by rfl) (by rw[Aa R];have h:=A.b1.there;simp only[m9]at h;exact h) (by rw[Aa R];exact Tryz.zG) (mL BT) ?_;simp only[oo];generalize a.setCells (N+1) 0 g=W2 at m;have c9:=m.2.1.cell 0;simp at c9;have f9:=m.2.1.frozen 0))
  refine HP _ _ ?_;clear HP K3;refine wpIn_ret ?_;have K4:=m.2.1.set 0 (pE jj);have HO:Ac [N+1,N+2] a (W2.setCell ⟨N+2,0,Y⟩ (pE jj)):=m.2.2.setCell (p:=⟨N+2,0,Y⟩) (oi (by simp)) _;refine⟨HO,[],rfl,x,KB,A.kept.trans' HO (λq t=>Or.inr ?_),?_,K4⟩
  .have hn:=Aa HN;simp only[kZ,mr,or_false]at t;rcases t with rfl|rfl<;>omega
  .rw[Aa LL];exact m.1.zB ⟨N+2,0,Y⟩ (by simp) _
 case rdone=>
  rintro D M' a hD ⟨⟨HJ,-⟩,i⟩ hd _;refine BS _ _ ?_;clear BS;have A:=Ab i;have HD:Hid (w.heap.size<=D/\a.heap[D]?=V (.deferred (V []))):=⟨by omega,hd⟩;have LE:=Ab HJ;clear i hd HJ HR EY;obtain⟨j,hZ⟩:=pN (pG 26 (O ⟨#[]⟩));have HZ:=Ab hZ;have R:Hid (j.toArray.size=26):=by show _=_;rw[<-hZ];simp
  have BT:Hid (∀u∈j,u.oneCell'=jj):=λu hu=>by rw[<-hZ]at hu;rw[(List.mem_replicate.1 hu).2];rfl
  have K5:Hid (Z j=26):=by show _=_;rw[<-hZ];simp
  rw[hZ]at A;clear hZ;have m:Hid (WI w N K j ((a.setCells (N+1) 0 j).setCell ⟨N+2,0,Y⟩ (pE K))/\((a.setCells (N+1) 0 j).setCell ⟨N+2,0,Y⟩ (pE K)).heap[D]?=V (.deferred (V []))/\AF (a.setCells (N+1) 0 j) (N+2) [pE K] 4):=by
   have k1:Ac [N+1] a (a.setCells (N+1) 0 j):=(pO [N+1] a).zI (b:=N+1) (oi (by simp)) _ 0;have v:=A.b2.kept k1;have k2:Ac [N+1,N+2] a ((a.setCells (N+1) 0 j).setCell ⟨N+2,0,Y⟩ (pE K)):=(k1.mono (by simp)).setCell (p:=⟨N+2,0,Y⟩) (oi (by simp)) _;have JJ:D∉[N+1,N+2]:=by
    intro h;simp only[kZ,mr,or_false]at h;have:=Aa HN;rcases h with rfl|rfl<;>omega
   refine⟨⟨A.kept.trans' k2 (λq t=>Or.inr ?_),(A.b1.zP _ (by simp)).zB ⟨N+2,0,Y⟩ (by simp) _,v.set 0 _⟩,(k2.block D (mc.1 HD.2).1 JJ).trans HD.2,v⟩;have hn:=Aa HN;simp only[kZ,mr,or_false]at t;rcases t with rfl|rfl<;>omega
  go_wp2_with ((with_reducible show wpList _ _ _ ({dst:=_,op:=Op.store 243 _ _,type:=_,pos:=_,after:=_,guard:=_}::_) _ _);refine nj rfl 243 _ _ rfl (N+1) 0 (ml j) (by rfl) (by rw[<-Aa HZ];rfl) (by rw[Aa R];have h:=A.b1.there;rw[Aa K5]at h;exact h) (by rw[Aa R];exact Tryz.zG) (mL BT) ?_;simp only[oo];generalize a.setCells (N+1) 0 j=W2 at m;have c9:=m.2.2.cell 0;simp at c9;have f9:=m.2.2.frozen 0)
  refine HS _ D _ Bk K rfl rfl HD.1 m.2.1 ?_ rfl (by rw[Aa LE];rfl) (λh=>by cases h);rw[KY,Aa HZ];exact m.1
 case rstop=>
  rintro D c FB M' a hD ⟨rfl,x,o,i⟩ hd;refine wp_ret ?_;refine HS _ D _ x jj rfl rfl (by omega) hd i (G x o) ?_ (λ_=>o);cases F with
  |nil=>simp at o
  |cons y l=>rfl
end Go.Proofs.YtoihbhenbmffcaaGreatDoor
namespace Go.Proofs.YtoihbhenbmffcaaGreatDoor
open Go.RowKit Go.Proofs.Tryz
variable{f:pM Af}{e:pM zA}{w v:py}{n m k i j b:Nat}{o:Option Addr}
def ex(b:pM UInt8)(t:AK):SV (C2 b) (ct t)=C2 (Dw b t):=by
 have g:(ct t).v=(t.v.toNat:Int):=rfl;have d:(ct t).v≠0↔(t.v !=0)=jj:=by
  have:=Zo t;rw[mN,mT,mT]at this;simp[this]
 have c:(ct t).v∈C2 b↔b.contains t.v=jj:=by
  rw[oK,g];unfold C2;constructor
  .intro h;obtain⟨u,f,e⟩:=lk.1 h;have:u=t.v:=mO.1 (by omega);rw[<-this];exact f
  .intro h;exact lk.2 ⟨t.v,h,rfl⟩
 unfold SV Dw;by_cases a:(t.v !=0&& !b.contains t.v)=jj
 .rw[ln a];rw[lJ]at a;rw[ln ⟨d.2 a.1,λh=>by rw[c.1 h]at a;simp at a⟩];unfold C2;rw[lV];rfl
 .rw[li a,li (λh=>a (by rw[lJ];exact⟨d.1 h.1,by cases hcc:b.contains t.v with|true=>exact absurd (c.2 hcc) h.2|false=>rfl⟩))]
def Q6:∀(a:pM AK) (b:pM UInt8),(a.map ct).foldl SV (C2 b)=C2 (Dz b a)
 |[],b=>rfl
 |t::a,b=>by
  rw[lE,lR,ex,Q6 a];rfl
def R3(a:pM AK):DS (a.map ct)=C2 (Dz [] a):=Q6 a []
def bS(r:A4):GY r=r.head.args++(Al r).flatMap Bu:=by
 unfold GY Al;rw[List.flatMap_map]
 congr 1
def Fy{d:UInt8->pM zA->pM zA}{g:pM Br}{s:pM Af}(f:∀v e,∀t∈d v e,A8 t):∀(c:pM UInt8) (e:pM zA),Di e->∀b∈Aw d g s c e,Di b
 |[],e,he,b,a=>by
  rw[Aw]at a;split at a
  .simp at a
  .rw[kY]at a;rw[a];exact he
 |v::c,e,he,b,a=>by
  rw[Aw]at a;split at a
  .simp at a
  .obtain⟨t,h,a⟩:=ma.1 a;exact Fy f c _ (he.set _ (f v e t h)) b a
def Mv{j:UInt8->pM zA->pM zA}{r:A4}{p:pM UInt8}(k:∀v e,∀t∈j v e,A8 t)(g:SU r (CA r) p)(i:Mq r.head){b:pM zA}(l:b∈Aw j (Al r) f (CA r) Bk):∀t∈r.head.args,A8 (AI b t):=by
 intro t c;have o:=BQ (λv e t c=>(k v e t c).size) (CA r) Bk b rfl (λv m=>(g.ok v (oi m)).1) l;have n:=Fy k (CA r) Bk Di.start b l;rcases n.val (i.args t c)with h|h
 .exfalso
  by_cases d:t.v=0
  .unfold AI at h;rw[ln d]at h;rcases i.args t c with⟨_,a⟩|⟨a,_⟩
   .exact a.size h
   .rw[d]at a;exact absurd a (by decide)
  .rw[EF d]at h;rcases g.head t c with a|a
   .exact d a
   .exact o.2.2.2 _ a h
 .exact h
def bW{r:A4}{c:Dy}(b:RX c r)(d:Mq r.head)(f:∀t∈r.head.args,A8 (AI e t)):(⟨c.hn,c.zV.map (BH (Bn e))⟩:C4)=BU (Aq e r.head):=by
 unfold BU Aq;simp only;rw[b.hn,b.zV,mq,mq]
 congr 1
 refine mu (λt a=>?_);simp only[Function.comp];rw[Iy (d.args t a),CK (f t a)]
def MQ(al:UInt8->pM zA->pM zA)(r:A4)(s:pM Af)(bs:pM (pM zA)):pM Af:=
 (bs.filter λb=> !C3 s (Aq b r.head)&& !(Aw al (Al r) s (Dp r) b).isEmpty).map λb=>Aq b r.head
def TC(a:UInt8->pM zA->pM zA)(r:A4)(s:pM Af):MQ a r s (Aw a (Al r) s (CA r) Bk)=Ss a r (CA r) (Dp r) s:=rfl
def YT(a:UInt8->pM zA->pM zA)(r:A4)(s:pM Af)(c:pM (pM zA))(b:pM zA):MQ a r s (c++[b])=MQ a r s c++if(!C3 s (Aq b r.head)&& !(Aw a (Al r) s (Dp r) b).isEmpty)=jj then[Aq b r.head] else[]:=by
 unfold MQ;rw[nF,lV]
 congr 1
 simp only[mW,List.filter_nil];split<;>rfl
structure QK(c:Dy)(r:A4)(s:pM Af):Prop where
 zv:RX c r
 fit:Qk c
 zQ:Z (BE c)<=90000
 lits:∀x∈Al r,Db x/\P6 (LU x)
 parts:SU r (CA r) (Dp r)
 head:Mq r.head
 fitA:ZH s (Al r)
 canon:∀f∈s,AL f
 len:Z s<=10000
def QK.al{c:Dy}{r:A4}(h:QK c r f):∀v e,∀t∈Jc (Al r) f v e,A8 t:=λv e t a=>Jg h.canon h.fitA v e t ((Fk (Al r) f v e t).1 a)
def QK.order{c:Dy}{r:A4}(h:QK c r f):DS (BE c)=C2 (CA r++Dp r):=by
 rw[h.zv.zQ,R3,bS,O0]
def QK.ofHead{c:Dy}{r:A4}(h:QK c r f):DS c.zV=C2 (CA r):=by
 rw[h.zv.zV,R3];rfl
def GE(a:pM UInt8):Z (C2 a)=Z a:=by unfold C2;simp
def F2.fst{a:pM Lz}{b:pM Ba}(h:F2 T4 a b):a.map Prod.fst=(b.map Prod.fst).map LU:=by
 induction h using F2.ind with
 |nil=>rfl
 |cons h1 _ ih=>simp only[lE,ih,h1.eq]
def QK.yB{c:Dy}{r:A4}(h:QK c r f):Z (CA r++Dp r)<=26:=by
 have b:=(Es (r.head.args++(Al r).flatMap Bu) [] nG).2.1;rw[O0]at b;have d:=Ia (CA r++Dp r) ((List.range 26).map λi=>UInt8.ofNat (i+65)) b (λv e=>by
  have a:=(h.parts.ok v (lw.1 e)).1
  refine lk.2 ⟨v.toNat-65,oQ.2 (by have:=a.1;have:=a.2;omega),?_⟩
  apply mO.1
  rw[UInt8.toNat_ofNat']
  have:=a.1
  have:=a.2
  omega)
 simpa using d
def QK.sea{c:Dy}{r:A4}(h:QK c r f){d:Option Addr}{g:Option Addr}{a:pM Fa}(e:PQ w n m k (U o (Z c.zH) i) (U d (Z (DS (BE c))) j) g b a)(x:B8 w 0 (U o (Z c.zH) i) c.zH)(l:w.ownsRow 0 21 1 (U d (Z (DS (BE c))) j) (Z (DS (BE c))) ((DS (BE c)).flatMap AU))(p:Df a f):dU w n (Al r) f (CA r++Dp r):=by
 have t:Z (Al r)<=1000:=by
  have u:=congrArg List.length (F2.fst h.zv.lits);have y:=h.fit.lits;unfold Al;simp at u⊢;omega
 rw[h.order]at e l;exact⟨⟨m,k,o,i,c.zH,d,j,g,b,a,e,x,F2.fst h.zv.lits,l,p⟩,h.len,h.lits,t,by have:=h.yB;omega,h.fitA,λv q=>(h.parts.ok v (lw.1 q)).1⟩
structure U3 where
 f:Fa
 n:p5
 ns:pM Fa
structure Lk(w:py)(st:U3):Prop where
 pf:Ea w st.f
 len:Z st.f.f.zC<=1000
 nds:Jm w st.n st.ns
 sl:∃a c,st.n=U a (Z st.ns) c
def Lk.map{a:U3}(h:Lk w a)(f:∀p,Ea w p->Ea v p)(g:w.ownsRow 0 104 2 a.n (Z a.ns) (a.ns.flatMap A6)->v.ownsRow 0 104 2 a.n (Z a.ns) (a.ns.flatMap A6)):Lk v a:=
 ⟨f _ h.pf,h.len,⟨g h.nds.row,λp b=>⟨f p (h.nds.each p b).1,(h.nds.each p b).2⟩⟩,h.sl⟩
def Lk.kept{w w':py}{a:U3}(h:Lk w a)(k:Ac [] w w'):Lk w' a:=h.map (λp b=>b.kept k) (λc=>Ad c k)
def ki(r:A4)(s:pM Af)(f:C4)(ns:pM C4):Prop:=∃σ,(∀x∈Al r,Cg (Bm σ) (Ed σ) s x=jj)/\AL (Bm σ r.head)/\f=BU (Bm σ r.head)/\ns=(CG r σ).pos.map BU
def fq(B:Nat)(r:A4)(s:pM Af)(st:U3):Prop:=(∀q,st.n.ownBlock=V q->B<=q)/\ki r s st.f.f (st.ns.map Fa.f)
def ie{c:Dy}{r:A4}(h:QK c r f){b a:pM zA}(m:b∈Aw (Jc (Al r) f) (Al r) f (CA r) Bk)(w:a∈Aw (Jc (Al r) f) (Al r) f (Dp r) b):
  ki r f (BU (Aq b r.head)) (JE (Bn a) ((Al r).map LU)):=by
 have j:=h.parts;have y:∀v e,∀t∈Jc (Al r) f v e,t.size≠0:=λv e t d=>(h.al v e t d).size
 obtain⟨F,_,_,G⟩:=BQ y (CA r) Bk b rfl (λv k=>(j.ok v (oi k)).1) m;obtain⟨I,q,E,H⟩:=BQ y (Dp r) b a F (λv k=>(j.ok v (Or.inr k)).1) w;have u:∀v∈CA r,Nk a v=Nk b v:=λv k=>E v (j.ok v (oi k)).1 (j.apart v k)
 have D:Di a:=Fy h.al _ _ (Fy h.al _ _ Di.start b m) a w;have p:∀x∈Al r,∀t∈Bu x,(AI a t).size≠0:=by
  intro x i t d;by_cases g:t.v=0
  .rcases j.lits x i t d with h|h
   .unfold AI;rw[ln g];exact h.2
   .rw[g]at h;exact absurd h.1 (by decide)
  .rw[EF g];rcases j.body x i t d with h|h|h
   .exact absurd h g
   .rw[u _ h];exact G _ h
   .exact H _ h
 have n:Aq b r.head=Bm (Jl a) r.head:=by
  unfold Aq Bm
  congr 1
  refine mu (λt d=>?_);rw[GU];by_cases g:t.v=0
  .unfold AI;rw[ln g,ln g]
  .rw[EF g,EF g];rcases j.head t d with h|h
   .exact absurd h g
   .exact(u _ h).symm
 refine⟨Jl a,λx i=>?_,by rw[<-n];exact GJ (Mv h.al h.parts h.head m),by rw[n],?_⟩
 .have C:DK a (Bu x)=jj:=by
   unfold DK;rw[mC];intro t d;cases hE:U4 (AI a t)with
   |false=>rfl
   |true=>exact absurd ((D5 _).1 hE) (p x i t d)
  have z:Cg (Aq a) (AI a) f x=jj:=by
   unfold Eg at q;have:=(mU.1 q) x i;rw[C,mR]at this;simpa using this
  rw[<-Iq (e:=a) (σ:=Jl a) (λt d=>(GU a t).symm)];exact z
 .unfold JE CG;simp only;rw[List.filter_map,mq,mq];have B:(Al r).filter ((λx:PL=>x.sort==0)∘LU)=(Al r).filter λx=>x.kind==97:=by
   refine List.filter_congr (λx _=>?_);show(F9 x.kind==0)=(x.kind==97);exact SY x.kind
  rw[B];refine mu (λx i=>?_);obtain⟨i,o⟩:=lK.1 i;have l:=(h.lits x i).1;unfold Db at l;rw[ln (by rw[o];rfl)]at l;show(⟨x.A.name,(x.A.args.map ct).map (BH (Bn a))⟩:C4)=BU (Bm (Jl a) x.A);unfold BU Bm;simp only;rw[mq,mq]
  congr 1
  refine mu (λt d=>?_);simp only[Function.comp];rw[Iy (l.args t d),GU];refine CK ?_;rcases D.val (l.args t d)with h|h
  .exact absurd h (p x i t (by unfold Bu;rw[ln (by rw[o];rfl)];exact d))
  .exact h
def Um{B:Nat}{r:A4}{s:pM Af}:∀(b:pM U3) (L:pM Af),b.map (λa=>a.f.f)=L.map BU->(∀f∈L,AL f)->(∀a∈b,fq B r s a)->
  ∃c:pM (GZ Af),c.map GZ.head=L/\(∀i∈c,∃σ,(∀x∈Al r,Cg (Bm σ) (Ed σ) s x=jj)/\i=CG r σ)/\b.map (λa=>(a.f.f,a.ns.map Fa.f))=c.map λi=>(BU i.head,i.pos.map BU)
 |[],[],_,_,_=>⟨[],rfl,λi d=>by simp at d,rfl⟩
 |[],_::_,h,_,_=>by simp at h
 |_::_,[],h,_,_=>by simp at h
 |a::b,f::L,h,hL,hs=>by
  simp only[lE,mj]at h;obtain⟨c,o,n,p⟩:=Um b L h.2 (λg q=>hL g (by simp[q])) (λx t=>hs x (by simp[t]));obtain⟨_,σ,l,k,e,j⟩:=hs a (by simp);have m:Bm σ r.head=f:=N9 k (hL f (by simp)) (by rw[<-e,h.1]);refine⟨CG r σ::c,?_,?_,?_⟩
  .simp only[lE,o];rw[show(CG r σ).head=f from m]
  .intro i d;rcases kZ.1 d with rfl|d
   .exact⟨σ,l,rfl⟩
   .exact n i d
  .simp only[lE,p];rw[j,e];rfl
def KJ(k:Nat)(st:U3):pM p5:=[O st.f.f.name,st.f.tv,X .i64 k,st.n]
section
variable {P:Program} {ops:Array Oper} {Q:Exit->Act->py->Prop} {md:Region.Mode} {S:py->Prop} {k:Nat}
def CF.two{i j:Nat}{l m:Oper}{g:Nat}{f:Array Bool}{a:Act}{w:py}(t:Region.ready md ops f=[i,j])(A:ops[i]?=V l)(u:ops[j]?=V m)
  (y:∀c:Act->py->Prop,Hid (∀d b,(i≠k->S b)->CF P md ops Q S k g (f.setIfInBounds i jj) d b->c d b)->
   if Region.wanted l (yielded ops a.tmps)=jj then l.wp P a w c Q else c (a.put l.dst undef) w)
  (z:∀c:Act->py->Prop,Hid (∀d b,(j≠k->S b)->CF P md ops Q S k g (f.setIfInBounds j jj) d b->c d b)->
   if Region.wanted m (yielded ops a.tmps)=jj then m.wp P a w c Q else c (a.put m.dst undef) w):CF P md ops Q S k (g+1) f a w:=by
 have r:∀(q:Nat) (o:Oper),ops[q]?=V o->(∀c:Act->py->Prop,Hid (∀d b,(q≠k->S b)->CF P md ops Q S k g (f.setIfInBounds q jj) d b->c d b)->
   if Region.wanted o (yielded ops a.tmps)=jj then o.wp P a w c Q else c (a.put o.dst undef) w)->wpOp P ops Q q (λd b=>(q≠k->S b)/\CF P md ops Q S k g (f.setIfInBounds q jj) d b) a w:=by
  intro q o x h;have e:=h _ (λd b v e=>And.intro v e);unfold wpOp;simp only[x];split
  .rename_i p;rw[ln p]at e;exact .inl e
  .rename_i p;rw[li p]at e;exact e
 refine⟨λs=>(by rw[t]at s;cases s),λq n=>?_⟩;rw[t]at n;simp only[kZ,mr,or_false]at n;rcases n with rfl|rfl
 .exact r _ _ A y
 .exact r _ _ u z
end
