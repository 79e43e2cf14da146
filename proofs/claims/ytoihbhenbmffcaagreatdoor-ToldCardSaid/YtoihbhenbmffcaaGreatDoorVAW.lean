import Derived.Test.YtoihbhenbmffcaaGreatDoorVAV
set_option linter.all false
set_option maxHeartbeats 0
open List renaming length->Z,toArray->D6,replicate->NP
open Option renaming none->Y,some->V
open Go.Value renaming slice->U,int->X,string->O,pointer->Gi,agg->Ms,bool->No
open Bool renaming false->K,true->Cm
open Go.Obj renaming cells->Dj
open Or renaming inl->Hd
open Go renaming World->Hq,Value->Hs
namespace Go.Proofs.YtoihbhenbmffcaaGreatDoor
open Go.RowKit Go.Proofs.Tryz
variable{P:Program}{w:Hq}{b n:Nat}{y:QC Hs}{T:TypeId}{z:Hs}{B:Bool}
def L4(m:Nat)(k:QC Bp)(s:QC Af)(f:QC UInt8)(o:Hq)(n:QC Nat)(u:∀t,Ac n o t->eh t m k s f)(b:Nat)(B:b<=Z f)(j:QC UInt8):∀(a:Nat) (e:QC bC) (c g d h:Nat) (w:Hq) (i:QC Nat),Dr e->a<=b->(f.take b).drop a=j->Vd o n m c g d h a b e i w->
  Lv prog 176 #[Gi (V ⟨c,0,Y⟩),Gi (V ⟨g,0,Y⟩),Gi (V ⟨d,0,Y⟩),Gi (V ⟨h,0,Y⟩)] (λx=>#[Ms (D6 (Aj (Bq x)))]) (Av (Jd k s) k s j e) i w:=by
 induction j with
 |nil=>
  intro a e c g d h w i p N l q
  have H:b-a=0:=by
   have:=congrArg List.length l;rw[mG,mB]at this;simp at this;omega
  obtain rfl:a=b:=by omega
  exact VF m k s f o n u _ a e c g d h w i p q
 |cons v j ih=>
  intro a e c g d h w i p N l q
  have H:b-a=Z j+1:=by
   have:=congrArg List.length l;rw[mG,mB]at this;simp at this;omega
  have y:a<b:=by omega
  have L:a<Z (f.take b):=by rw[mB];omega
  rw[lY L]at l;obtain⟨r,A⟩:=List.cons.inj l;rw[oJ]at r;exact UQ m k s f o n u v j a b e c g d h w i p y B r q (λC E F I P z M D G=>ih (a+1) C E F I P z M D (by omega) A G)
def Np(k:Nat)(d:QC Bp)(s:QC Af)(g:QC UInt8)(l:Hq)(r:eh l k d s g)(b:Nat)(n:b<=Z g)(m:QC UInt8):∀(a:Nat) (e:QC bC) (c h f i:Nat) (w:Hq) (j:QC Nat),Dr e->a<=b->(g.take b).drop a=m->dv l k c h f i a b e j w->
  Lv prog 176 #[Gi (V ⟨c,0,Y⟩),Gi (V ⟨h,0,Y⟩),Gi (V ⟨f,0,Y⟩),Gi (V ⟨i,0,Y⟩)] (λx=>#[Ms (D6 (Aj (Bq x)))]) (Av (Jd d s) d s m e) j w:=
 λa e c h f i w j q t p u=>L4 k d s g l [] (λv o=>r.kept o) b n m a e c h f i w j q t p u.more
def cH{f:Func}{p q:Tmp}{c e:TypeId}(h:f.results=#[.cell p c,.cell q e]){a:Array Hs}{d:TypeDesc}
  (i:a.getD p undef=Gi (V ⟨b,0,Y⟩)) (r:AI w b y T) (o:P.underlying c=V d) (g:d.isRow=Cm) (s:(P.info? c).map (·.size)=V (Z y))
    (l:a.getD q undef=Gi (V ⟨n,0,Y⟩)) (j:(loadVar e ⟨n,0,Y⟩).run P w=.ok z w):
  (results f a).run P w=.ok (.tuple #[Ms (D6 y),z]) w:=by
 have m:=run_loadVar_mid (P:=P) w b 0 c y d r.range o g s;have k:a[p]?.getD undef=Gi (V ⟨b,0,Y⟩):=by simpa using i
 have u:a[q]?.getD undef=Gi (V ⟨n,0,Y⟩):=by simpa using l
 simp only[results,h];simp[pD,Result.andThen,k,m,asAddr,u,j]
structure WK(w:Hq)(N:Nat)(B:Bool)(X:QC Hs)(W:Hq):Prop where
 kept:Ac [] w W
 b1:AI W (N+1) X 243
 b2:AI W (N+2) [No B] 4
def WK.own{N c:Nat}(h:w.heap.size<=c){β:Type}(A:β->Prop):OwnFrom c (fun(s:β) W=>A s/\WK w N B y W):=
 BQ (λs W d M a k b=>⟨a.1,EA a.2.kept k b h,a.2.b1.kept k (C4 b a.2.b1),a.2.b2.kept k (C4 b a.2.b2)⟩)
def E7(x:QC bC)(h:Z x=26):Z (Aj (Bq x))=26/\∀u∈Aj (Bq x),u.oneCell'=Cm:=by
 refine⟨by unfold Aj Bq;rw[lR,lR];exact h,λu a=>?_⟩;unfold Aj at a;obtain⟨y,_,rfl⟩:=lP.1 a;rfl
def KV:Aj (Bq Bj)=NP 26 (O ⟨#[]⟩):=by
 unfold Aj Bq Bj;rw[List.map_replicate,List.map_replicate,Qp];rfl
theorem cD(h:AI w b [No B] 4):(loadVar 4 ⟨b,0,Y⟩).run prog w=.ok (No B) w:=by
 have c:=h.cell 0;simp at c;simp[go_sem,c,underlying4]
set_option maxRecDepth 100000
theorem cn(sp:Nat)(n:QC Bp)(s:QC Af)(vs:QC UInt8)(Q H:Nat)(L:QC UInt8)(e:QC bC)(w:Hq)(hS:eh w sp n s vs)(he:Dr e)(IA:Q<=H)(HE:H<=Z vs)(hr:(vs.take H).drop Q=L):
  Calls prog 197 #[Gi (V ⟨sp,0,Y⟩),X .i64 Q,X .i64 H,Ms (D6 (Aj (Bq e)))] w λr z=>∃(x:QC bC) (B:Bool),r=.returned (.tuple #[Ms (D6 (Aj (Bq x))),No B])/\Z x=26/\B= !(Av (Jd n s) n s L e).isEmpty/\(B=Cm->x∈Av (Jd n s) n s L e)/\Ac [] w z:=by
 have Go:Hid (∀P v I S f M0,dv w sp P v I S Q H e M0 f->Lv prog 176 #[Gi (V ⟨P,0,Y⟩),Gi (V ⟨v,0,Y⟩),Gi (V ⟨I,0,Y⟩),Gi (V ⟨S,0,Y⟩)] (λx=>#[Ms (D6 (Aj (Bq x)))]) (Av (Jd n s) n s L e) M0 f):=λP v I S f M0 hB=>Np sp n s vs w hS H HE L Q e P v I S f M0 he IA hr hB
 have G:Hid (∀x∈Av (Jd n s) n s L e,Z x=26):=GM L e he.len;obtain⟨F,HR⟩:=QP (Av (Jd n s) n s L e);rw[HR]at Go G⊢;have hc:=Bt (Bq e);obtain⟨FW,LB⟩:=E7 e he.len;have Ha:Hid (∀f,Calls prog 141 #[Gi (V ⟨sp,0,Y⟩),X .i64 Q,X .i64 H,Ms (D6 (Aj (Bq e)))] f λr z=>∃P v I S,r=.returned (.func (.func 176) #[] #[Gi (V ⟨P,0,Y⟩),Gi (V ⟨v,0,Y⟩),Gi (V ⟨I,0,Y⟩),Gi (V ⟨S,0,Y⟩)])/\
   AI z P [Gi (V ⟨sp,0,Y⟩)] 233/\AI z v (Aj (Bq e)) 243/\AI z I [X .i64 Q] 3/\AI z S [X .i64 H] 3/\(f.heap.size<=P/\f.heap.size<=v/\f.heap.size<=I/\f.heap.size<=S)/\Ac [] f z):=λf=>IR sp Q H _ f hc FW
 have HO:=Ab FW;obtain⟨E,hE⟩:=QP (Aj (Bq e));have K8:=Ab hE;rw[hE]at hc FW HO Ha⊢;obtain⟨N,hN⟩:=QP w.heap.size;have HN:=Ab hN;obtain⟨w1,AH⟩:=QP (((w.alloc (Dj (D6 E) 243)).alloc (Dj (D6 (NP 26 (O ⟨#[]⟩))) 243)).alloc (Dj #[No K] 4));have H3:=Ab AH;have HV:Hid (AI w1 N E 243):=by
  have h:=((Tc w E 243).alloc (Dj (D6 (NP 26 (O ⟨#[]⟩))) 243)).alloc (Dj #[No K] 4);rw[AH,hN]at h;exact h
 have A1:Hid (WK w N K (NP 26 (O ⟨#[]⟩)) w1):=by
  refine⟨?_,?_,?_⟩
  .rw[<-AH];exact(((SF [] w).alloc _).alloc _).alloc _
  .have h:=(Tc (w.alloc (Dj (D6 E) 243)) (NP 26 (O ⟨#[]⟩)) 243).alloc (Dj #[No K] 4);rw[AH,mt,hN]at h;exact h
  .have h:=Tc ((w.alloc (Dj (D6 E) 243)).alloc (Dj (D6 (NP 26 (O ⟨#[]⟩))) 243)) [No K] 4;rw[mt,mt,hN]at h;rw[<-AH];exact h
 clear HR hE hS he IA HE hr LB AH hN;obtain⟨QQ,HB⟩:=QP (Ks (bodyPostM Fence.wide 0 prog Tryz.f197 λr z=>∃(x:QC bC) (B:Bool),r=.returned (.tuple #[Ms (D6 (Aj (Bq x))),No B])/\Z x=26/\B= !F.isEmpty/\(B=Cm->x∈F)/\Ac [] w z));have HQ:Hid (∀(CL:Array Hs) (D:Nat) (f:Hq) (x:QC bC) (B:Bool),CL.getD 8 undef=Gi (V ⟨N+1,0,Y⟩)->CL.getD 9 undef=Gi (V ⟨N+2,0,Y⟩)->w.heap.size<=D->f.heap[D]?=V (.deferred (V []))->WK w N B (Aj (Bq x)) f->Z x=26->B= !F.isEmpty->(B=Cm->x∈F)->QQ .ret ⟨CL,[EO D]⟩ f):=by
  intro CL D f x B h8 h9 hD hd i o hB hm;rw[<-HB];have HS:DD w.heap.size [D] f:=⟨by simp,λd B9=>by simp only[lG]at B9;omega,λd B9=>by simp only[lG]at B9;rw[B9];exact hd⟩;refine DC [D] f HS (λz hs=>?_);have FL:=(hs.own (WK.own (lX _) (λ_:Unit=>True)) (s:=()) HS ⟨trivial,i⟩).2;exact⟨_,cH rfl h8 FL.b1 underlying243 rfl (by rw[(E7 x o).1];exact Tryz.bi) h9 (cD FL.b2),x,B,rfl,o,hB,hm,FL.kept⟩
 refine EQ func197 rfl (Gv ?_);rw[HB];clear HB;simp only[ntmps197,mW,lQ,mn,Nat.reduceAdd,Nat.reduceSub,om,oo,oK,oz,mR,ny];refine Q0 (λK1 BA=>?_);go_wp2;refine BA _ _ ?_;clear BA K1;change Code.wp _ _ _ _ (((w.alloc (Dj (D6 E) 243)).alloc (Dj (D6 (NP 26 (O ⟨#[]⟩))) 243)).alloc (Dj #[No K] 4));rw[Aa H3,Aa HN];clear H3;refine Q0 (λK1 BA=>?_);refine Q0 (λK2 H1=>?_);go_wp2_with ((with_reducible show wpList _ _ _ ({dst:=_,op:=Op.load 243 _,type:=_,pos:=_,after:=_,guard:=_}::_) _ _);refine BW (by rfl) 243 _ rfl N 0 (by rfl) E _ HV.range underlying243 rfl (by rw[Aa HO];exact Tryz.bi) ?_)
 refine(Ha _).mono ?_;rintro _ w3 ⟨d1,d2,d3,d4,rfl,n1,n2,n3,n4,HX,k3⟩;have EM:Hid (WK w N K (NP 26 (O ⟨#[]⟩)) w3):=⟨A1.kept.trans k3,A1.b1.kept k3,A1.b2.kept k3⟩;have MY:=A1.b2.lt;have HP:=Aa Go d1 d2 d3 d4 w3 [N+1,N+2] ⟨EM.kept,n1,by rw[Aa K8];exact n2,n3,n4,λq t=>by
  have hn:=Aa HN
  have h3:=k3.size
  obtain⟨g1,g2,g3,g4⟩:=HX
  simp only[lI,mQ,or_false]at t
  rcases t with rfl|rfl<;>omega⟩
 have MB:=k3.size;have HF:w.heap.size<=w3.heap.size:=EM.kept.size;clear n1 n2 n3 n4 HX k3 Go Ha HV A1;go_wp2;refine H1 _ _ ?_;clear H1 K2;refine wp_block ?_;refine Jm (T:=243) (q:=10) rfl (enters_of func176 (by kernel_rfl) rfl) HP (λq t=>by
  simp only[lI,mQ,or_false]at t
  rcases t with rfl|rfl<;>omega)
  (λE0 M W=>(E0=[]/\M=[N+1,N+2])/\WK w N K (NP 26 (O ⟨#[]⟩)) W) (λc _ _ W=>c=.ret/\∃x,x∈F/\WK w N Cm (Aj (Bq x)) W)
  (WK.own HF (λs:QC (QC bC)×QC Nat=>s.1=[]/\s.2=[N+1,N+2])) (λc=>BQ (λs W a M hs k hM=>by
   obtain⟨h1,x,o,i⟩:=hs
   exact⟨h1,x,o,EA i.kept k hM HF,i.b1.kept k (C4 hM i.b1),i.b2.kept k (C4 hM i.b2)⟩)) ⟨⟨rfl,rfl⟩,EM⟩ ?rassign ?rbody ?rdone ?rstop
 case rassign=>
  intro l' x a M3 o HK;obtain⟨C,AB⟩:=E7 x (G x o);obtain⟨g,AR⟩:=QP (Aj (Bq x));rw[AR]at C AB HK⊢;have BB:=Ab AB;have G:=Ab C;have R:Hid (g.toArray.size=26):=by show _=_;simp[C]
  clear o AR C AB;simp only[lz,lC,lD]at HK⊢;refine AN (by rfl) (It GC) ?_;go_wp2_with ((with_reducible show wpList _ _ _ ({dst:=_,op:=Op.store 243 _ _,type:=_,pos:=_,after:=_,guard:=_}::_) _ _);refine nN rfl 243 _ _ rfl a.heap.size 0 (D6 g) (by rfl) (by rfl) ?_ ?_ ?_ ?_)
  .have h:=(Tc a (NP 26 (O ⟨#[]⟩)) 243).there;simp only[nJ]at h;rw[Aa R];exact h
  .rw[Aa R];exact Tryz.bi
  .exact m7 BB
  .refine HK _ (((SF [] a).alloc (Dj (D6 (NP 26 (O ⟨#[]⟩))) 243)).di (b:=a.heap.size) (Or.inr (lX _)) g 0) ?_;exact(Tc a (NP 26 (O ⟨#[]⟩)) 243).fo g (by rw[Aa G];simp)
 case rbody=>
  rintro l' Bx E0 x M1 M a H5 ⟨⟨rfl,rfl⟩,i⟩ hM M6 FO;have FF:x∈F:=by rw[H5];simp
  obtain⟨C,AB⟩:=E7 x (G x FF);obtain⟨g,AR⟩:=QP (Aj (Bq x));have LE:=Ab AR;simp only[AR]at C AB FO⊢;have BB:=Ab AB;have G:=Ab C;have R:Hid (g.toArray.size=26):=by show _=_;simp[C]
  have LS:=Ab FO;have A:=Ab i;have JJ:=Ab FF;clear i FO C AB AR H5 FF;simp only[lz,lC,lD];have m:Hid (AI (a.setCells (N+1) 0 g) (N+1) g 243/\AI (a.setCells (N+1) 0 g) (N+2) [No K] 4/\Ac [N+1,N+2] a (a.setCells (N+1) 0 g)):=by
   refine⟨A.b1.fo g (by rw[Aa G];simp),?_,(SF _ a).di (b:=N+1) (Hd (by simp)) g 0⟩;exact A.b2.kept ((SF [N+1] a).di (b:=N+1) (Hd (by simp)) g 0)
  refine wpIn_block ?_;refine m8 (λK3 HW=>?_);have HM:=Ab HW;clear HW;refine AN (by rfl) (by rintro ⟨_,_,h⟩;exact h) ?_;go_wp2_with (first
   |((with_reducible show wpList _ _ _ ({dst:=_,op:=Op.load 243 _,type:=_,pos:=_,after:=_,guard:=_}::_) _ _);refine BW (by rfl) 243 _ rfl Bx 0 (by rfl) g _ LS.range underlying243 rfl (by rw[Aa G];exact Tryz.bi) ?_)
   |((with_reducible show wpList _ _ _ ({dst:=_,op:=Op.store 243 _ _,type:=_,pos:=_,after:=_,guard:=_}::_) _ _);refine nN rfl 243 _ _ rfl (N+1) 0 (D6 g) (by rfl) (by rfl) (by rw[Aa R];have h:=A.b1.there;simp only[nJ]at h;exact h) (by rw[Aa R];exact Tryz.bi) (m7 BB) ?_;simp only[oN];generalize a.setCells (N+1) 0 g=W2 at m;have c9:=m.2.1.cell 0;simp at c9;have f9:=m.2.1.frozen 0))
  refine HM _ _ ?_;clear HM K3;refine wpIn_ret ?_;have KS:=m.2.1.set 0 (No Cm);have HL:Ac [N+1,N+2] a (W2.setCell ⟨N+2,0,Y⟩ (No Cm)):=m.2.2.setCell (p:=⟨N+2,0,Y⟩) (Hd (by simp)) _;refine⟨HL,[],rfl,x,JJ,A.kept.trans' HL (λq t=>Or.inr ?_),?_,KS⟩
  .have hn:=Aa HN;simp only[lI,mQ,or_false]at t;rcases t with rfl|rfl<;>omega
  .rw[Aa LE];exact m.1.bI ⟨N+2,0,Y⟩ (by simp) _
 case rdone=>
  rintro D M' a hD ⟨⟨HH,-⟩,i⟩ hd _;refine BA _ _ ?_;clear BA;have A:=Ab i;have HD:Hid (w.heap.size<=D/\a.heap[D]?=V (.deferred (V []))):=⟨by omega,hd⟩;have LC:=Ab HH;clear i hd HH HP EM;obtain⟨j,hZ⟩:=QP (NP 26 (O ⟨#[]⟩));have HZ:=Ab hZ;have R:Hid (j.toArray.size=26):=by show _=_;rw[<-hZ];simp
  have BB:Hid (∀u∈j,u.oneCell'=Cm):=λu hu=>by rw[<-hZ]at hu;rw[(List.mem_replicate.1 hu).2];rfl
  have K4:Hid (Z j=26):=by show _=_;rw[<-hZ];simp
  rw[hZ]at A;clear hZ;have m:Hid (WK w N K j ((a.setCells (N+1) 0 j).setCell ⟨N+2,0,Y⟩ (No K))/\((a.setCells (N+1) 0 j).setCell ⟨N+2,0,Y⟩ (No K)).heap[D]?=V (.deferred (V []))/\AI (a.setCells (N+1) 0 j) (N+2) [No K] 4):=by
   have k1:Ac [N+1] a (a.setCells (N+1) 0 j):=(SF [N+1] a).di (b:=N+1) (Hd (by simp)) _ 0;have v:=A.b2.kept k1;have k2:Ac [N+1,N+2] a ((a.setCells (N+1) 0 j).setCell ⟨N+2,0,Y⟩ (No K)):=(k1.mono (by simp)).setCell (p:=⟨N+2,0,Y⟩) (Hd (by simp)) _;have Jx:D∉[N+1,N+2]:=by
    intro h;simp only[lI,mQ,or_false]at h;have:=Aa HN;rcases h with rfl|rfl<;>omega
   refine⟨⟨A.kept.trans' k2 (λq t=>Or.inr ?_),(A.b1.fo _ (by simp)).bI ⟨N+2,0,Y⟩ (by simp) _,v.set 0 _⟩,(k2.block D (mE.1 HD.2).1 Jx).trans HD.2,v⟩;have hn:=Aa HN;simp only[lI,mQ,or_false]at t;rcases t with rfl|rfl<;>omega
  go_wp2_with ((with_reducible show wpList _ _ _ ({dst:=_,op:=Op.store 243 _ _,type:=_,pos:=_,after:=_,guard:=_}::_) _ _);refine nN rfl 243 _ _ rfl (N+1) 0 (D6 j) (by rfl) (by rw[<-Aa HZ];rfl) (by rw[Aa R];have h:=A.b1.there;rw[Aa K4]at h;exact h) (by rw[Aa R];exact Tryz.bi) (m7 BB) ?_;simp only[oN];generalize a.setCells (N+1) 0 j=W2 at m;have c9:=m.2.2.cell 0;simp at c9;have f9:=m.2.2.frozen 0)
  refine HQ _ D _ Bj K rfl rfl HD.1 m.2.1 ?_ rfl (by rw[Aa LC];rfl) (λh=>by cases h);rw[KV,Aa HZ];exact m.1
 case rstop=>
  rintro D c E0 M' a hD ⟨rfl,x,o,i⟩ hd;refine wp_ret ?_;refine HQ _ D _ x Cm rfl rfl (by omega) hd i (G x o) ?_ (λ_=>o);cases F with
  |nil=>simp at o
  |cons y l=>rfl
end Go.Proofs.YtoihbhenbmffcaaGreatDoor
namespace Go.Proofs.YtoihbhenbmffcaaGreatDoor
open Go.RowKit Go.Proofs.Tryz
variable{f:QC Af}{e:QC bC}{w v:Hq}{n m k i j b:Nat}{o:Option Addr}
def eL(b:QC UInt8)(t:AF):SU (C7 b) (ct t)=C7 (DE b t):=by
 have g:(ct t).v=(t.v.toNat:Int):=rfl;have d:(ct t).v≠0↔(t.v !=0)=Cm:=by
  have:=Zt t;rw[m9,nu,nu]at this;simp[this]
 have c:(ct t).v∈C7 b↔b.contains t.v=Cm:=by
  rw[pi,g];unfold C7;constructor
  .intro h;obtain⟨u,f,e⟩:=lP.1 h;have:u=t.v:=nh.1 (by omega);rw[<-this];exact f
  .intro h;exact lP.2 ⟨t.v,h,rfl⟩
 unfold SU DE;by_cases a:(t.v !=0&& !b.contains t.v)=Cm
 .rw[lS a];rw[mi]at a;rw[lS ⟨d.2 a.1,λh=>by rw[c.1 h]at a;simp at a⟩];unfold C7;rw[mx];rfl
 .rw[lO a,lO (λh=>a (by rw[mi];exact⟨d.1 h.1,by cases hcc:b.contains t.v with|true=>exact absurd (c.2 hcc) h.2|false=>rfl⟩))]
def Q8:∀(a:QC AF) (b:QC UInt8),(a.map ct).foldl SU (C7 b)=C7 (DG b a)
 |[],b=>rfl
 |t::a,b=>by
  rw[l9,mr,eL,Q8 a];rfl
def R6(a:QC AF):DW (a.map ct)=C7 (DG [] a):=Q8 a []
def bZ(r:A7):GY r=r.head.args++(Am r).flatMap Bo:=by
 unfold GY Am;rw[List.flatMap_map]
 congr 1
def FM{d:UInt8->QC bC->QC bC}{g:QC Bp}{s:QC Af}(f:∀v e,∀t∈d v e,A6 t):∀(c:QC UInt8) (e:QC bC),Dr e->∀b∈Av d g s c e,Dr b
 |[],e,he,b,a=>by
  rw[Av]at a;split at a
  .simp at a
  .rw[lG]at a;rw[a];exact he
 |v::c,e,he,b,a=>by
  rw[Av]at a;split at a
  .simp at a
  .obtain⟨t,h,a⟩:=mD.1 a;exact FM f c _ (he.set _ (f v e t h)) b a
def Mu{j:UInt8->QC bC->QC bC}{r:A7}{p:QC UInt8}(k:∀v e,∀t∈j v e,A6 t)(g:SS r (CE r) p)(i:Mp r.head){b:QC bC}(l:b∈Av j (Am r) f (CE r) Bj):∀t∈r.head.args,A6 (AL b t):=by
 intro t c;have o:=BV (λv e t c=>(k v e t c).size) (CE r) Bj b rfl (λv m=>(g.ok v (Hd m)).1) l;have n:=FM k (CE r) Bj Dr.start b l;rcases n.val (i.args t c)with h|h
 .exfalso
  by_cases d:t.v=0
  .unfold AL at h;rw[lS d]at h;rcases i.args t c with⟨_,a⟩|⟨a,_⟩
   .exact a.size h
   .rw[d]at a;exact absurd a (by decide)
  .rw[EU d]at h;rcases g.head t c with a|a
   .exact d a
   .exact o.2.2.2 _ a h
 .exact h
def cg{r:A7}{c:DF}(b:RY c r)(d:Mp r.head)(f:∀t∈r.head.args,A6 (AL e t)):(⟨c.hn,c.dx.map (BJ (Bq e))⟩:C9)=BX (Aq e r.head):=by
 unfold BX Aq;simp only;rw[b.hn,b.dx,mJ,mJ]
 congr 1
 refine mI (λt a=>?_);simp only[Function.comp];rw[Iu (d.args t a),CM (f t a)]
def MP(al:UInt8->QC bC->QC bC)(r:A7)(s:QC Af)(bs:QC (QC bC)):QC Af:=
 (bs.filter λb=> !CW s (Aq b r.head)&& !(Av al (Am r) s (Dy r) b).isEmpty).map λb=>Aq b r.head
def TC(a:UInt8->QC bC->QC bC)(r:A7)(s:QC Af):MP a r s (Av a (Am r) s (CE r) Bj)=Ss a r (CE r) (Dy r) s:=rfl
def YY(a:UInt8->QC bC->QC bC)(r:A7)(s:QC Af)(c:QC (QC bC))(b:QC bC):MP a r s (c++[b])=MP a r s c++if(!CW s (Aq b r.head)&& !(Av a (Am r) s (Dy r) b).isEmpty)=Cm then[Aq b r.head] else[]:=by
 unfold MP;rw[nZ,mx]
 congr 1
 simp only[nw,List.filter_nil];split<;>rfl
structure QK(c:DF)(r:A7)(s:QC Af):Prop where
 zL:RY c r
 fit:Qk c
 dP:Z (BF c)<=90000
 lits:∀x∈Am r,Dk x/\P7 (LQ x)
 parts:SS r (CE r) (Dy r)
 head:Mp r.head
 fitA:ZN s (Am r)
 canon:∀f∈s,AJ f
 len:Z s<=10000
def QK.al{c:DF}{r:A7}(h:QK c r f):∀v e,∀t∈Jd (Am r) f v e,A6 t:=λv e t a=>Jl h.canon h.fitA v e t ((Fr (Am r) f v e t).1 a)
def QK.order{c:DF}{r:A7}(h:QK c r f):DW (BF c)=C7 (CE r++Dy r):=by
 rw[h.zL.dP,R6,bZ,O7]
def QK.ofHead{c:DF}{r:A7}(h:QK c r f):DW c.dx=C7 (CE r):=by
 rw[h.zL.dx,R6];rfl
def GG(a:QC UInt8):Z (C7 a)=Z a:=by unfold C7;simp
def F2.fst{a:QC Lx}{b:QC Be}(h:F2 T4 a b):a.map Prod.fst=(b.map Prod.fst).map LQ:=by
 induction h using F2.ind with
 |nil=>rfl
 |cons h1 _ ih=>simp only[l9,ih,h1.eq]
def Xl:∀(b:QC AF) (a:QC UInt8),Z (DG a b)<=Z a+Z b
 |[],a=>by simp[DG]
 |t::b,a=>by
  have c:=Xl b (DE a t);have d:Z (DE a t)<=Z a+1:=by unfold DE;split<;>simp
  have e:DG a (t::b)=DG (DE a t) b:=rfl;rw[e,lQ];omega
def QK.zU{c:DF}{r:A7}(h:QK c r f):Z (CE r++Dy r)<=26:=by
 have b:=(EE (r.head.args++(Am r).flatMap Bo) [] n6).2.1;rw[O7]at b;have d:=Kl (CE r++Dy r) ((List.range 26).map λi=>UInt8.ofNat (i+65)) b (λv e=>by
  have a:=(h.parts.ok v (lV.1 e)).1
  refine lP.2 ⟨v.toNat-65,pu.2 (by have:=a.1;have:=a.2;omega),?_⟩
  apply nh.1
  rw[UInt8.toNat_ofNat']
  have:=a.1
  have:=a.2
  omega)
 simpa using d
def QK.sea{c:DF}{r:A7}(h:QK c r f){d:Option Addr}{g:Option Addr}{a:QC Fh}(e:PS w n m k (U o (Z c.bm) i) (U d (Z (DW (BF c))) j) g b a)(x:Cd w 0 (U o (Z c.bm) i) c.bm)(l:w.ownsRow 0 21 1 (U d (Z (DW (BF c))) j) (Z (DW (BF c))) ((DW (BF c)).flatMap AW))(p:Dp a f):eh w n (Am r) f (CE r++Dy r):=by
 have t:Z (Am r)<=1000:=by
  have u:=congrArg List.length (F2.fst h.zL.lits);have y:=h.fit.lits;unfold Am;simp at u⊢;omega
 rw[h.order]at e l;exact⟨⟨m,k,o,i,c.bm,d,j,g,b,a,e,x,F2.fst h.zL.lits,l,p⟩,h.len,h.lits,t,by have:=h.zU;omega,h.fitA,λv q=>(h.parts.ok v (lV.1 q)).1⟩
structure UZ where
 f:Fh
 n:Hs
 ns:QC Fh
structure Lj(w:Hq)(st:UZ):Prop where
 pf:Ek w st.f
 len:Z st.f.f.bc<=1000
 nds:Jr w st.n st.ns
 sl:∃a c,st.n=U a (Z st.ns) c
def Lj.map{a:UZ}(h:Lj w a)(f:∀p,Ek w p->Ek v p)(g:w.ownsRow 0 104 2 a.n (Z a.ns) (a.ns.flatMap A8)->v.ownsRow 0 104 2 a.n (Z a.ns) (a.ns.flatMap A8)):Lj v a:=
 ⟨f _ h.pf,h.len,⟨g h.nds.row,λp b=>⟨f p (h.nds.each p b).1,(h.nds.each p b).2⟩⟩,h.sl⟩
def Lj.kept{w w':Hq}{a:UZ}(h:Lj w a)(k:Ac [] w w'):Lj w' a:=h.map (λp b=>b.kept k) (λc=>Ad c k)
def kN(r:A7)(s:QC Af)(f:C9)(ns:QC C9):Prop:=∃σ,(∀x∈Am r,Ce (Bk σ) (DZ σ) s x=Cm)/\AJ (Bk σ r.head)/\f=BX (Bk σ r.head)/\ns=(C1 r σ).pos.map BX
def fL(B:Nat)(r:A7)(s:QC Af)(st:UZ):Prop:=(∀q,st.n.ownBlock=V q->B<=q)/\kN r s st.f.f (st.ns.map Fh.f)
def ix{c:DF}{r:A7}(h:QK c r f){b a:QC bC}(m:b∈Av (Jd (Am r) f) (Am r) f (CE r) Bj)(w:a∈Av (Jd (Am r) f) (Am r) f (Dy r) b):
  kN r f (BX (Aq b r.head)) (JI (Bq a) ((Am r).map LQ)):=by
 have j:=h.parts;have y:∀v e,∀t∈Jd (Am r) f v e,t.size≠0:=λv e t d=>(h.al v e t d).size
 obtain⟨F,_,_,G⟩:=BV y (CE r) Bj b rfl (λv k=>(j.ok v (Hd k)).1) m;obtain⟨I,q,E,H⟩:=BV y (Dy r) b a F (λv k=>(j.ok v (Or.inr k)).1) w;have u:∀v∈CE r,Nc a v=Nc b v:=λv k=>E v (j.ok v (Hd k)).1 (j.apart v k)
 have D:Dr a:=FM h.al _ _ (FM h.al _ _ Dr.start b m) a w;have p:∀x∈Am r,∀t∈Bo x,(AL a t).size≠0:=by
  intro x i t d;by_cases g:t.v=0
  .rcases j.lits x i t d with h|h
   .unfold AL;rw[lS g];exact h.2
   .rw[g]at h;exact absurd h.1 (by decide)
  .rw[EU g];rcases j.body x i t d with h|h|h
   .exact absurd h g
   .rw[u _ h];exact G _ h
   .exact H _ h
 have n:Aq b r.head=Bk (Jq a) r.head:=by
  unfold Aq Bk
  congr 1
  refine mI (λt d=>?_);rw[GU];by_cases g:t.v=0
  .unfold AL;rw[lS g,lS g]
  .rw[EU g,EU g];rcases j.head t d with h|h
   .exact absurd h g
   .exact(u _ h).symm
 refine⟨Jq a,λx i=>?_,by rw[<-n];exact GJ (Mu h.al h.parts h.head m),by rw[n],?_⟩
 .have C:Dh a (Bo x)=Cm:=by
   unfold Dh;rw[m3];intro t d;cases hE:UJ (AL a t)with
   |false=>rfl
   |true=>exact absurd ((Ed _).1 hE) (p x i t d)
  have z:Ce (Aq a) (AL a) f x=Cm:=by
   unfold DU at q;have:=(ng.1 q) x i;rw[C,np]at this;simpa using this
  rw[<-Io (e:=a) (σ:=Jq a) (λt d=>(GU a t).symm)];exact z
 .unfold JI C1;simp only;rw[List.filter_map,mJ,mJ];have B:(Am r).filter ((λx:PL=>x.sort==0)∘LQ)=(Am r).filter λx=>x.kind==97:=by
   refine List.filter_congr (λx _=>?_);show(Gb x.kind==0)=(x.kind==97);exact SW x.kind
  rw[B];refine mI (λx i=>?_);obtain⟨i,o⟩:=mh.1 i;have l:=(h.lits x i).1;unfold Dk at l;rw[lS (by rw[o];rfl)]at l;show(⟨x.A.name,(x.A.args.map ct).map (BJ (Bq a))⟩:C9)=BX (Bk (Jq a) x.A);unfold BX Bk;simp only;rw[mJ,mJ]
  congr 1
  refine mI (λt d=>?_);simp only[Function.comp];rw[Iu (l.args t d),GU];refine CM ?_;rcases D.val (l.args t d)with h|h
  .exact absurd h (p x i t (by unfold Bo;rw[lS (by rw[o];rfl)];exact d))
  .exact h
def Ul{B:Nat}{r:A7}{s:QC Af}:∀(b:QC UZ) (L:QC Af),b.map (λa=>a.f.f)=L.map BX->(∀f∈L,AJ f)->(∀a∈b,fL B r s a)->
  ∃c:QC (GZ Af),c.map GZ.head=L/\(∀i∈c,∃σ,(∀x∈Am r,Ce (Bk σ) (DZ σ) s x=Cm)/\i=C1 r σ)/\b.map (λa=>(a.f.f,a.ns.map Fh.f))=c.map λi=>(BX i.head,i.pos.map BX)
 |[],[],_,_,_=>⟨[],rfl,λi d=>by simp at d,rfl⟩
 |[],_::_,h,_,_=>by simp at h
 |_::_,[],h,_,_=>by simp at h
 |a::b,f::L,h,hL,hs=>by
  simp only[l9,nC]at h;obtain⟨c,o,n,p⟩:=Ul b L h.2 (λg q=>hL g (by simp[q])) (λx t=>hs x (by simp[t]));obtain⟨_,σ,l,k,e,j⟩:=hs a (by simp);have m:Bk σ r.head=f:=N8 k (hL f (by simp)) (by rw[<-e,h.1]);refine⟨C1 r σ::c,?_,?_,?_⟩
  .simp only[l9,o];rw[show(C1 r σ).head=f from m]
  .intro i d;rcases lI.1 d with rfl|d
   .exact⟨σ,l,rfl⟩
   .exact n i d
  .simp only[l9,p];rw[j,e];rfl
def KI(k:Nat)(st:UZ):QC Hs:=[O st.f.f.name,st.f.tv,X .i64 k,st.n]
section
variable {P:Program} {ops:Array Oper} {Q:Exit->Act->Hq->Prop} {md:Region.Mode} {S:Hq->Prop} {k:Nat}
def CH.two{i j:Nat}{l m:Oper}{g:Nat}{f:Array Bool}{a:Act}{w:Hq}(t:Region.ready md ops f=[i,j])(A:ops[i]?=V l)(u:ops[j]?=V m)
  (y:∀c:Act->Hq->Prop,Hid (∀d b,(i≠k->S b)->CH P md ops Q S k g (f.setIfInBounds i Cm) d b->c d b)->
   if Region.wanted l (yielded ops a.tmps)=Cm then l.wp P a w c Q else c (a.put l.dst undef) w)
  (z:∀c:Act->Hq->Prop,Hid (∀d b,(j≠k->S b)->CH P md ops Q S k g (f.setIfInBounds j Cm) d b->c d b)->
   if Region.wanted m (yielded ops a.tmps)=Cm then m.wp P a w c Q else c (a.put m.dst undef) w):CH P md ops Q S k (g+1) f a w:=by
 have r:∀(q:Nat) (o:Oper),ops[q]?=V o->(∀c:Act->Hq->Prop,Hid (∀d b,(q≠k->S b)->CH P md ops Q S k g (f.setIfInBounds q Cm) d b->c d b)->
   if Region.wanted o (yielded ops a.tmps)=Cm then o.wp P a w c Q else c (a.put o.dst undef) w)->wpOp P ops Q q (λd b=>(q≠k->S b)/\CH P md ops Q S k g (f.setIfInBounds q Cm) d b) a w:=by
  intro q o x h;have e:=h _ (λd b v e=>And.intro v e);unfold wpOp;simp only[x];split
  .rename_i p;rw[lS p]at e;exact .inl e
  .rename_i p;rw[lO p]at e;exact e
 refine⟨λs=>(by rw[t]at s;cases s),λq n=>?_⟩;rw[t]at n;simp only[lI,mQ,or_false]at n;rcases n with rfl|rfl
 .exact r _ _ A y
 .exact r _ _ u z
end
