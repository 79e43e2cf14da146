import Derived.Test.YtoihbhenbmffcaaGreatZAU
set_option linter.all false
set_option maxHeartbeats 0
open List renaming length->Z,toArray->j1,replicate->kD
open Option renaming none->Y,some->V
open Go.Value renaming slice->U,int->X,string->O,pointer->j2,agg->kx,bool->k0
open Bool renaming false->K,true->hG
open Go.Obj renaming cells->jj
open Or renaming inl->kn
open Go renaming World->kq,Value->ks
namespace Go.Proofs.YtoihbhenbmffcaaGreat
open Go.RowKit Go.Proofs.Tryz
variable{P:Program}{w:kq}{b n:Nat}{y:kJ ks}{T:TypeId}{z:ks}{B:Bool}
def Qy(m:Nat)(k:kJ BH)(s:kJ Ag)(f:kJ UInt8)(o:kq)(n:kJ Nat)(u:∀t,Ac n o t->di t m k s f)(b:Nat)(B:b<=Z f)(j:kJ UInt8):∀(a:Nat) (e:kJ zA) (c g d h:Nat) (w:kq) (i:kJ Nat),De e->a<=b->(f.take b).drop a=j->UD o n m c g d h a b e i w->
  Le prog 160 #[j2 (V ⟨c,0,Y⟩),j2 (V ⟨g,0,Y⟩),j2 (V ⟨d,0,Y⟩),j2 (V ⟨h,0,Y⟩)] (λx=>#[kx (j1 (Ai (Bt x)))]) (AE (Kv k s) k s j e) i w:=by
 induction j with
 |nil=>
  intro a e c g d h w i p N l q
  have H:b-a=0:=by
   have:=congrArg List.length l;rw[gD,gq]at this;simp at this;omega
  obtain rfl:a=b:=by omega
  exact To m k s f o n u _ a e c g d h w i p q
 |cons v j ih=>
  intro a e c g d h w i p N l q
  have H:b-a=Z j+1:=by
   have:=congrArg List.length l;rw[gD,gq]at this;simp at this;omega
  have y:a<b:=by omega
  have L:a<Z (f.take b):=by rw[gq];omega
  rw[fQ L]at l;obtain⟨r,A⟩:=List.cons.inj l;rw[jf]at r;exact SD m k s f o n u v j a b e c g d h w i p y B r q (λC E F I P z M D G=>ih (a+1) C E F I P z M D (by omega) A G)
def LX(k:Nat)(d:kJ BH)(s:kJ Ag)(g:kJ UInt8)(l:kq)(r:di l k d s g)(b:Nat)(n:b<=Z g)(m:kJ UInt8):∀(a:Nat) (e:kJ zA) (c h f i:Nat) (w:kq) (j:kJ Nat),De e->a<=b->(g.take b).drop a=m->Zj l k c h f i a b e j w->
  Le prog 160 #[j2 (V ⟨c,0,Y⟩),j2 (V ⟨h,0,Y⟩),j2 (V ⟨f,0,Y⟩),j2 (V ⟨i,0,Y⟩)] (λx=>#[kx (j1 (Ai (Bt x)))]) (AE (Kv d s) d s m e) j w:=
 λa e c h f i w j q t p u=>Qy k d s g l [] (λv o=>r.kept o) b n m a e c h f i w j q t p u.more
def YI{f:Func}{p q:Tmp}{c e:TypeId}(h:f.results=#[.cell p c,.cell q e]){a:Array ks}{d:TypeDesc}
  (i:a.getD p undef=j2 (V ⟨b,0,Y⟩)) (r:AF w b y T) (o:P.underlying c=V d) (g:d.isRow=hG) (s:(P.info? c).map (·.size)=V (Z y))
    (l:a.getD q undef=j2 (V ⟨n,0,Y⟩)) (j:(loadVar e ⟨n,0,Y⟩).run P w=.ok z w):
  (results f a).run P w=.ok (.tuple #[kx (j1 y),z]) w:=by
 have m:=run_loadVar_mid (P:=P) w b 0 c y d r.range o g s;have k:a[p]?.getD undef=j2 (V ⟨b,0,Y⟩):=by simpa using i
 have u:a[q]?.getD undef=j2 (V ⟨n,0,Y⟩):=by simpa using l
 simp only[results,h];simp[jO,Result.andThen,k,m,asAddr,u,j]
structure Uj(w:kq)(N:Nat)(B:Bool)(X:kJ ks)(W:kq):Prop where
 kept:Ac [] w W
 b1:AF W (N+1) X 244
 b2:AF W (N+2) [k0 B] 4
def Uj.own{N c:Nat}(h:w.heap.size<=c){β:Type}(A:β->Prop):OwnFrom c (fun(s:β) W=>A s/\Uj w N B y W):=
 Cm (λs W d M a k b=>⟨a.1,E9 a.2.kept k b h,a.2.b1.kept k (Dt b a.2.b1),a.2.b2.kept k (Dt b a.2.b2)⟩)
def E8(x:kJ zA)(h:Z x=26):Z (Ai (Bt x))=26/\∀u∈Ai (Bt x),u.oneCell'=hG:=by
 refine⟨by unfold Ai Bt;rw[fH,fH];exact h,λu a=>?_⟩;unfold Ai at a;obtain⟨y,_,rfl⟩:=fC.1 a;rfl
def NQ:Ai (Bt BM)=kD 26 (O ⟨#[]⟩):=by
 unfold Ai Bt BM;rw[List.map_replicate,List.map_replicate,O5];rfl
theorem YG(h:AF w b [k0 B] 4):(loadVar 4 ⟨b,0,Y⟩).run prog w=.ok (k0 B) w:=by
 have c:=h.cell 0;simp at c;simp[go_sem,c,underlying4]
set_option maxRecDepth 100000
theorem Yz(sp:Nat)(n:kJ BH)(s:kJ Ag)(vs:kJ UInt8)(Q H:Nat)(L:kJ UInt8)(e:kJ zA)(w:kq)(hS:di w sp n s vs)(he:De e)(K7:Q<=H)(HP:H<=Z vs)(hr:(vs.take H).drop Q=L):
  Calls prog 148 #[j2 (V ⟨sp,0,Y⟩),X .i64 Q,X .i64 H,kx (j1 (Ai (Bt e)))] w λr z=>∃(x:kJ zA) (B:Bool),r=.returned (.tuple #[kx (j1 (Ai (Bt x))),k0 B])/\Z x=26/\B= !(AE (Kv n s) n s L e).isEmpty/\(B=hG->x∈AE (Kv n s) n s L e)/\Ac [] w z:=by
 have HI:Hid (∀P v I S f M0,Zj w sp P v I S Q H e M0 f->Le prog 160 #[j2 (V ⟨P,0,Y⟩),j2 (V ⟨v,0,Y⟩),j2 (V ⟨I,0,Y⟩),j2 (V ⟨S,0,Y⟩)] (λx=>#[kx (j1 (Ai (Bt x)))]) (AE (Kv n s) n s L e) M0 f):=λP v I S f M0 hB=>LX sp n s vs w hS H HP L Q e P v I S f M0 he K7 hr hB
 have G:Hid (∀x∈AE (Kv n s) n s L e,Z x=26):=JV L e he.len;obtain⟨F,H1⟩:=kK (AE (Kv n s) n s L e);rw[H1]at HI G⊢;have hc:=Bh (Bt e);obtain⟨HH,M6⟩:=E8 e he.len;have HJ:Hid (∀f,Calls prog 146 #[j2 (V ⟨sp,0,Y⟩),X .i64 Q,X .i64 H,kx (j1 (Ai (Bt e)))] f λr z=>∃P v I S,r=.returned (.func (.func 160) #[] #[j2 (V ⟨P,0,Y⟩),j2 (V ⟨v,0,Y⟩),j2 (V ⟨I,0,Y⟩),j2 (V ⟨S,0,Y⟩)])/\
   AF z P [j2 (V ⟨sp,0,Y⟩)] 237/\AF z v (Ai (Bt e)) 244/\AF z I [X .i64 Q] 3/\AF z S [X .i64 H] 3/\(f.heap.size<=P/\f.heap.size<=v/\f.heap.size<=I/\f.heap.size<=S)/\Ac [] f z):=λf=>JQ sp Q H _ f hc HH
 have HX:=Ab HH;obtain⟨E,hE⟩:=kK (Ai (Bt e));have MY:=Ab hE;rw[hE]at hc HH HX HJ⊢;obtain⟨N,hN⟩:=kK w.heap.size;have HN:=Ab hN;obtain⟨w1,AH⟩:=kK (((w.alloc (jj (j1 E) 244)).alloc (jj (j1 (kD 26 (O ⟨#[]⟩))) 244)).alloc (jj #[k0 K] 4));have IS:=Ab AH;have H5:Hid (AF w1 N E 244):=by
  have h:=((kN w E 244).alloc (jj (j1 (kD 26 (O ⟨#[]⟩))) 244)).alloc (jj #[k0 K] 4);rw[AH,hN]at h;exact h
 have B9:Hid (Uj w N K (kD 26 (O ⟨#[]⟩)) w1):=by
  refine⟨?_,?_,?_⟩
  .rw[<-AH];exact(((kL [] w).alloc _).alloc _).alloc _
  .have h:=(kN (w.alloc (jj (j1 E) 244)) (kD 26 (O ⟨#[]⟩)) 244).alloc (jj #[k0 K] 4);rw[AH,fY,hN]at h;exact h
  .have h:=kN ((w.alloc (jj (j1 E) 244)).alloc (jj (j1 (kD 26 (O ⟨#[]⟩))) 244)) [k0 K] 4;rw[fY,fY,hN]at h;rw[<-AH];exact h
 clear H1 hE hS he K7 HP hr M6 AH hN;obtain⟨QQ,HM⟩:=kK (PM (bodyPostM Fence.wide 0 prog Tryz.f148 λr z=>∃(x:kJ zA) (B:Bool),r=.returned (.tuple #[kx (j1 (Ai (Bt x))),k0 B])/\Z x=26/\B= !F.isEmpty/\(B=hG->x∈F)/\Ac [] w z));have H0:Hid (∀(FC:Array ks) (D:Nat) (f:kq) (x:kJ zA) (B:Bool),FC.getD 8 undef=j2 (V ⟨N+1,0,Y⟩)->FC.getD 9 undef=j2 (V ⟨N+2,0,Y⟩)->w.heap.size<=D->f.heap[D]?=V (.deferred (V []))->Uj w N B (Ai (Bt x)) f->Z x=26->B= !F.isEmpty->(B=hG->x∈F)->QQ .ret ⟨FC,[FU D]⟩ f):=by
  intro FC D f x B h8 h9 hD hd i o hB hm;rw[<-HM];have H2:Ea w.heap.size [D] f:=⟨by simp,λd FA=>by simp only[ft]at FA;omega,λd FA=>by simp only[ft]at FA;rw[FA];exact hd⟩;refine Eg [D] f H2 (λz hs=>?_);have HC:=(hs.own (Uj.own (fJ _) (λ_:Unit=>True)) (s:=()) H2 ⟨trivial,i⟩).2;exact⟨_,YI rfl h8 HC.b1 underlying244 rfl (by rw[(E8 x o).1];exact Tryz.size244) h9 (YG HC.b2),x,B,rfl,o,hB,hm,HC.kept⟩
 refine F6 func148 rfl (LG ?_);rw[HM];clear HM;simp only[ntmps148,gS,fD,gh,Nat.reduceAdd,Nat.reduceSub,ju,jv,jG,jB,ia,iO];refine kI (λK1 CL=>?_);go_wp2;refine CL _ _ ?_;clear CL K1;change Code.wp _ _ _ _ (((w.alloc (jj (j1 E) 244)).alloc (jj (j1 (kD 26 (O ⟨#[]⟩))) 244)).alloc (jj #[k0 K] 4));rw[Aa IS,Aa HN];clear IS;refine kI (λK1 CL=>?_);refine kI (λK2 Ix=>?_);go_wp2_with ((with_reducible show wpList _ _ _ ({dst:=_,op:=Op.load 244 _,type:=_,pos:=_,after:=_,guard:=_}::_) _ _);refine Bv (by rfl) 244 _ rfl N 0 (by rfl) E _ H5.range underlying244 rfl (by rw[Aa HX];exact Tryz.size244) ?_)
 refine(HJ _).mono ?_;rintro _ w3 ⟨d1,d2,d3,d4,rfl,n1,n2,n3,n4,H7,k3⟩;have FO:Hid (Uj w N K (kD 26 (O ⟨#[]⟩)) w3):=⟨B9.kept.trans k3,B9.b1.kept k3,B9.b2.kept k3⟩;have NX:=B9.b2.lt;have HY:=Aa HI d1 d2 d3 d4 w3 [N+1,N+2] ⟨FO.kept,n1,by rw[Aa MY];exact n2,n3,n4,λq t=>by
  have hn:=Aa HN
  have h3:=k3.size
  obtain⟨g1,g2,g3,g4⟩:=H7
  simp only[fx,gP,or_false]at t
  rcases t with rfl|rfl<;>omega⟩
 have NS:=k3.size;have HQ:w.heap.size<=w3.heap.size:=FO.kept.size;clear n1 n2 n3 n4 H7 k3 HI HJ H5 B9;go_wp2;refine Ix _ _ ?_;clear Ix K2;refine wp_block ?_;refine Iq (T:=244) (q:=10) rfl (enters_of func160 (by kernel_rfl) rfl) HY (λq t=>by
  simp only[fx,gP,or_false]at t
  rcases t with rfl|rfl<;>omega)
  (λFW M W=>(FW=[]/\M=[N+1,N+2])/\Uj w N K (kD 26 (O ⟨#[]⟩)) W) (λc _ _ W=>c=.ret/\∃x,x∈F/\Uj w N hG (Ai (Bt x)) W)
  (Uj.own HQ (λs:kJ (kJ zA)×kJ Nat=>s.1=[]/\s.2=[N+1,N+2])) (λc=>Cm (λs W a M hs k hM=>by
   obtain⟨h1,x,o,i⟩:=hs
   exact⟨h1,x,o,E9 i.kept k hM HQ,i.b1.kept k (Dt hM i.b1),i.b2.kept k (Dt hM i.b2)⟩)) ⟨⟨rfl,rfl⟩,FO⟩ ?rassign ?rbody ?rdone ?rstop
 case rassign=>
  intro l' x a N4 o HK;obtain⟨C,AB⟩:=E8 x (G x o);obtain⟨g,AT⟩:=kK (Ai (Bt x));rw[AT]at C AB HK⊢;have CW:=Ab AB;have G:=Ab C;have R:Hid (g.toArray.size=26):=by show _=_;simp[C]
  clear o AT C AB;simp only[ff,fh,fi]at HK⊢;refine CM (by rfl) (J2 Is) ?_;go_wp2_with ((with_reducible show wpList _ _ _ ({dst:=_,op:=Op.store 244 _ _,type:=_,pos:=_,after:=_,guard:=_}::_) _ _);refine iJ rfl 244 _ _ rfl a.heap.size 0 (j1 g) (by rfl) (by rfl) ?_ ?_ ?_ ?_)
  .have h:=(kN a (kD 26 (O ⟨#[]⟩)) 244).there;simp only[iI]at h;rw[Aa R];exact h
  .rw[Aa R];exact Tryz.size244
  .exact gZ CW
  .refine HK _ (((kL [] a).alloc (jj (j1 (kD 26 (O ⟨#[]⟩))) 244)).zI (b:=a.heap.size) (Or.inr (fJ _)) g 0) ?_;exact(kN a (kD 26 (O ⟨#[]⟩)) 244).zO g (by rw[Aa G];simp)
 case rbody=>
  rintro l' Bx FW x NY M a JJ ⟨⟨rfl,rfl⟩,i⟩ hM Os HE;have HB:x∈F:=by rw[JJ];simp
  obtain⟨C,AB⟩:=E8 x (G x HB);obtain⟨g,AT⟩:=kK (Ai (Bt x));have Nx:=Ab AT;simp only[AT]at C AB HE⊢;have CW:=Ab AB;have G:=Ab C;have R:Hid (g.toArray.size=26):=by show _=_;simp[C]
  have NE:=Ab HE;have A:=Ab i;have LD:=Ab HB;clear i HE C AB AT JJ HB;simp only[ff,fh,fi];have m:Hid (AF (a.setCells (N+1) 0 g) (N+1) g 244/\AF (a.setCells (N+1) 0 g) (N+2) [k0 K] 4/\Ac [N+1,N+2] a (a.setCells (N+1) 0 g)):=by
   refine⟨A.b1.zO g (by rw[Aa G];simp),?_,(kL _ a).zI (b:=N+1) (kn (by simp)) g 0⟩;exact A.b2.kept ((kL [N+1] a).zI (b:=N+1) (kn (by simp)) g 0)
  refine wpIn_block ?_;refine j5 (λK3 H6=>?_);have HW:=Ab H6;clear H6;refine CM (by rfl) (by rintro ⟨_,_,h⟩;exact h) ?_;go_wp2_with (first
   |((with_reducible show wpList _ _ _ ({dst:=_,op:=Op.load 244 _,type:=_,pos:=_,after:=_,guard:=_}::_) _ _);refine Bv (by rfl) 244 _ rfl Bx 0 (by rfl) g _ NE.range underlying244 rfl (by rw[Aa G];exact Tryz.size244) ?_)
   |((with_reducible show wpList _ _ _ ({dst:=_,op:=Op.store 244 _ _,type:=_,pos:=_,after:=_,guard:=_}::_) _ _);refine iJ rfl 244 _ _ rfl (N+1) 0 (j1 g) (by rfl) (by rfl) (by rw[Aa R];have h:=A.b1.there;simp only[iI]at h;exact h) (by rw[Aa R];exact Tryz.size244) (gZ CW) ?_;simp only[jk];generalize a.setCells (N+1) 0 g=W2 at m;have c9:=m.2.1.cell 0;simp at c9;have f9:=m.2.1.frozen 0))
  refine HW _ _ ?_;clear HW K3;refine wpIn_ret ?_;have LS:=m.2.1.set 0 (k0 hG);have HV:Ac [N+1,N+2] a (W2.setCell ⟨N+2,0,Y⟩ (k0 hG)):=m.2.2.setCell (p:=⟨N+2,0,Y⟩) (kn (by simp)) _;refine⟨HV,[],rfl,x,LD,A.kept.trans' HV (λq t=>Or.inr ?_),?_,LS⟩
  .have hn:=Aa HN;simp only[fx,gP,or_false]at t;rcases t with rfl|rfl<;>omega
  .rw[Aa Nx];exact m.1.zB ⟨N+2,0,Y⟩ (by simp) _
 case rdone=>
  rintro D M' a hD ⟨⟨HS,-⟩,i⟩ hd _;refine CL _ _ ?_;clear CL;have A:=Ab i;have HD:Hid (w.heap.size<=D/\a.heap[D]?=V (.deferred (V []))):=⟨by omega,hd⟩;have Nq:=Ab HS;clear i hd HS HY FO;obtain⟨j,hZ⟩:=kK (kD 26 (O ⟨#[]⟩));have HZ:=Ab hZ;have R:Hid (j.toArray.size=26):=by show _=_;rw[<-hZ];simp
  have CW:Hid (∀u∈j,u.oneCell'=hG):=λu hu=>by rw[<-hZ]at hu;rw[(List.mem_replicate.1 hu).2];rfl
  have L0:Hid (Z j=26):=by show _=_;rw[<-hZ];simp
  rw[hZ]at A;clear hZ;have m:Hid (Uj w N K j ((a.setCells (N+1) 0 j).setCell ⟨N+2,0,Y⟩ (k0 K))/\((a.setCells (N+1) 0 j).setCell ⟨N+2,0,Y⟩ (k0 K)).heap[D]?=V (.deferred (V []))/\AF (a.setCells (N+1) 0 j) (N+2) [k0 K] 4):=by
   have k1:Ac [N+1] a (a.setCells (N+1) 0 j):=(kL [N+1] a).zI (b:=N+1) (kn (by simp)) _ 0;have v:=A.b2.kept k1;have k2:Ac [N+1,N+2] a ((a.setCells (N+1) 0 j).setCell ⟨N+2,0,Y⟩ (k0 K)):=(k1.mono (by simp)).setCell (p:=⟨N+2,0,Y⟩) (kn (by simp)) _;have LB:D∉[N+1,N+2]:=by
    intro h;simp only[fx,gP,or_false]at h;have:=Aa HN;rcases h with rfl|rfl<;>omega
   refine⟨⟨A.kept.trans' k2 (λq t=>Or.inr ?_),(A.b1.zO _ (by simp)).zB ⟨N+2,0,Y⟩ (by simp) _,v.set 0 _⟩,(k2.block D (gB.1 HD.2).1 LB).trans HD.2,v⟩;have hn:=Aa HN;simp only[fx,gP,or_false]at t;rcases t with rfl|rfl<;>omega
  go_wp2_with ((with_reducible show wpList _ _ _ ({dst:=_,op:=Op.store 244 _ _,type:=_,pos:=_,after:=_,guard:=_}::_) _ _);refine iJ rfl 244 _ _ rfl (N+1) 0 (j1 j) (by rfl) (by rw[<-Aa HZ];rfl) (by rw[Aa R];have h:=A.b1.there;rw[Aa L0]at h;exact h) (by rw[Aa R];exact Tryz.size244) (gZ CW) ?_;simp only[jk];generalize a.setCells (N+1) 0 j=W2 at m;have c9:=m.2.2.cell 0;simp at c9;have f9:=m.2.2.frozen 0)
  refine H0 _ D _ BM K rfl rfl HD.1 m.2.1 ?_ rfl (by rw[Aa Nq];rfl) (λh=>by cases h);rw[NQ,Aa HZ];exact m.1
 case rstop=>
  rintro D c FW M' a hD ⟨rfl,x,o,i⟩ hd;refine wp_ret ?_;refine H0 _ D _ x hG rfl rfl (by omega) hd i (G x o) ?_ (λ_=>o);cases F with
  |nil=>simp at o
  |cons y l=>rfl
end Go.Proofs.YtoihbhenbmffcaaGreat
namespace Go.Proofs.YtoihbhenbmffcaaGreat
open Go.RowKit Go.Proofs.Tryz
variable{f:kJ Ag}{e:kJ zA}{w v:kq}{n m k i j b:Nat}{o:Option Addr}
def Z6(b:kJ UInt8)(t:AG):QY (Fk b) (ct t)=Fk (Fg b t):=by
 have g:(ct t).v=(t.v.toNat:Int):=rfl;have d:(ct t).v≠0↔(t.v !=0)=hG:=by
  have:=WK t;rw[gU,iF,iF]at this;simp[this]
 have c:(ct t).v∈Fk b↔b.contains t.v=hG:=by
  rw[kh,g];unfold Fk;constructor
  .intro h;obtain⟨u,f,e⟩:=fC.1 h;have:u=t.v:=il.1 (by omega);rw[<-this];exact f
  .intro h;exact fC.2 ⟨t.v,h,rfl⟩
 unfold QY Fg;by_cases a:(t.v !=0&& !b.contains t.v)=hG
 .rw[fF a];rw[fU]at a;rw[fF ⟨d.2 a.1,λh=>by rw[c.1 h]at a;simp at a⟩];unfold Fk;rw[gn];rfl
 .rw[fB a,fB (λh=>a (by rw[fU];exact⟨d.1 h.1,by cases hcc:b.contains t.v with|true=>exact absurd (c.2 hcc) h.2|false=>rfl⟩))]
def PB:∀(a:kJ AG) (b:kJ UInt8),(a.map ct).foldl QY (Fk b)=Fk (FN b a)
 |[],b=>rfl
 |t::a,b=>by
  rw[fS,fZ,Z6,PB a];rfl
def UR(a:kJ AG):Dv (a.map ct)=Fk (FN [] a):=PB a []
def Yr(r:AY):Fb r=r.head.args++(Ak r).flatMap BQ:=by
 unfold Fb Ak;rw[List.flatMap_map]
 congr 1
def Gd{d:UInt8->kJ zA->kJ zA}{g:kJ BH}{s:kJ Ag}(f:∀v e,∀t∈d v e,A1 t):∀(c:kJ UInt8) (e:kJ zA),De e->∀b∈AE d g s c e,De b
 |[],e,he,b,a=>by
  rw[AE]at a;split at a
  .simp at a
  .rw[ft]at a;rw[a];exact he
 |v::c,e,he,b,a=>by
  rw[AE]at a;split at a
  .simp at a
  .obtain⟨t,h,a⟩:=gc.1 a;exact Gd f c _ (he.set _ (f v e t h)) b a
def KZ{j:UInt8->kJ zA->kJ zA}{r:AY}{p:kJ UInt8}(k:∀v e,∀t∈j v e,A1 t)(g:QX r (Cf r) p)(i:KR r.head){b:kJ zA}(l:b∈AE j (Ak r) f (Cf r) BM):∀t∈r.head.args,A1 (AJ b t):=by
 intro t c;have o:=B4 (λv e t c=>(k v e t c).size) (Cf r) BM b rfl (λv m=>(g.ok v (kn m)).1) l;have n:=Gd k (Cf r) BM De.start b l;rcases n.val (i.args t c)with h|h
 .exfalso
  by_cases d:t.v=0
  .unfold AJ at h;rw[fF d]at h;rcases i.args t c with⟨_,a⟩|⟨a,_⟩
   .exact a.size h
   .rw[d]at a;exact absurd a (by decide)
  .rw[Gt d]at h;rcases g.head t c with a|a
   .exact d a
   .exact o.2.2.2 _ a h
 .exact h
def Yv{r:AY}{c:CB}(b:Qj c r)(d:KR r.head)(f:∀t∈r.head.args,A1 (AJ e t)):(⟨c.hn,c.zD.map (Bq (Bt e))⟩:Cg)=Bn (Av e r.head):=by
 unfold Bn Av;simp only;rw[b.hn,b.zD,gR,gR]
 congr 1
 refine gN (λt a=>?_);simp only[Function.comp];rw[Hb (d.args t a),CK (f t a)]
def Lo(al:UInt8->kJ zA->kJ zA)(r:AY)(s:kJ Ag)(bs:kJ (kJ zA)):kJ Ag:=
 (bs.filter λb=> !DI s (Av b r.head)&& !(AE al (Ak r) s (C7 r) b).isEmpty).map λb=>Av b r.head
def Rx(a:UInt8->kJ zA->kJ zA)(r:AY)(s:kJ Ag):Lo a r s (AE a (Ak r) s (Cf r) BM)=QE a r (Cf r) (C7 r) s:=rfl
def Wh(a:UInt8->kJ zA->kJ zA)(r:AY)(s:kJ Ag)(c:kJ (kJ zA))(b:kJ zA):Lo a r s (c++[b])=Lo a r s c++if(!DI s (Av b r.head)&& !(AE a (Ak r) s (C7 r) b).isEmpty)=hG then[Av b r.head] else[]:=by
 unfold Lo;rw[iD,gn]
 congr 1
 simp only[gW,List.filter_nil];split<;>rfl
structure Pp(c:CB)(r:AY)(s:kJ Ag):Prop where
 zg:Qj c r
 fit:Js c
 zQ:Z (A5 c)<=90000
 lits:∀x∈Ak r,DN x/\PR (L1 x)
 parts:QX r (Cf r) (C7 r)
 head:KR r.head
 fitA:Zr s (Ak r)
 canon:∀f∈s,AQ f
 len:Z s<=10000
def Pp.al{c:CB}{r:AY}(h:Pp c r f):∀v e,∀t∈Kv (Ak r) f v e,A1 t:=λv e t a=>Ni h.canon h.fitA v e t ((Hd (Ak r) f v e t).1 a)
def Pp.order{c:CB}{r:AY}(h:Pp c r f):Dv (A5 c)=Fk (Cf r++C7 r):=by
 rw[h.zg.zQ,UR,Yr,Nr]
def Pp.ofHead{c:CB}{r:AY}(h:Pp c r f):Dv c.zD=Fk (Cf r):=by
 rw[h.zg.zD,UR];rfl
def Ny(a:kJ UInt8):Z (Fk a)=Z a:=by unfold Fk;simp
def F2.fst{a:kJ OR}{b:kJ Bs}(h:F2 Xq a b):a.map Prod.fst=(b.map Prod.fst).map L1:=by
 induction h using F2.ind with
 |nil=>rfl
 |cons h1 _ ih=>simp only[fS,ih,h1.eq]
def Pp.zs{c:CB}{r:AY}(h:Pp c r f):Z (Cf r++C7 r)<=26:=by
 have b:=(Fd (r.head.args++(Ak r).flatMap BQ) [] i7).2.1;rw[Nr]at b;have d:=Kw (Cf r++C7 r) ((List.range 26).map λi=>UInt8.ofNat (i+65)) b (λv e=>by
  have a:=(h.parts.ok v (fA.1 e)).1
  refine fC.2 ⟨v.toNat-65,List.mem_range.2 (by have:=a.1;have:=a.2;omega),?_⟩
  apply il.1
  rw[UInt8.toNat_ofNat']
  have:=a.1
  have:=a.2
  omega)
 simpa using d
def Pp.sea{c:CB}{r:AY}(h:Pp c r f){d:Option Addr}{g:Option Addr}{a:kJ DF}(e:Ov w n m k (U o (Z c.zE) i) (U d (Z (Dv (A5 c))) j) g b a)(x:CF w 0 (U o (Z c.zE) i) c.zE)(l:w.ownsRow 0 21 1 (U d (Z (Dv (A5 c))) j) (Z (Dv (A5 c))) ((Dv (A5 c)).flatMap AU))(p:CG a f):di w n (Ak r) f (Cf r++C7 r):=by
 have t:Z (Ak r)<=1000:=by
  have u:=congrArg List.length (F2.fst h.zg.lits);have y:=h.fit.lits;unfold Ak;simp at u⊢;omega
 rw[h.order]at e l;exact⟨⟨m,k,o,i,c.zE,d,j,g,b,a,e,x,F2.fst h.zg.lits,l,p⟩,h.len,h.lits,t,by have:=h.zs;omega,h.fitA,λv q=>(h.parts.ok v (fA.1 q)).1⟩
structure dr where
 f:DF
 n:ks
 ns:kJ DF
structure KD(w:kq)(st:dr):Prop where
 pf:Dc w st.f
 len:Z st.f.f.zC<=1000
 nds:Iw w st.n st.ns
 sl:∃a c,st.n=U a (Z st.ns) c
def KD.map{a:dr}(h:KD w a)(f:∀p,Dc w p->Dc v p)(g:w.ownsRow 0 56 2 a.n (Z a.ns) (a.ns.flatMap AI)->v.ownsRow 0 56 2 a.n (Z a.ns) (a.ns.flatMap AI)):KD v a:=
 ⟨f _ h.pf,h.len,⟨g h.nds.row,λp b=>⟨f p (h.nds.each p b).1,(h.nds.each p b).2⟩⟩,h.sl⟩
def KD.kept{w w':kq}{a:dr}(h:KD w a)(k:Ac [] w w'):KD w' a:=h.map (λp b=>b.kept k) (λc=>Ad c k)
def eY(r:AY)(s:kJ Ag)(f:Cg)(ns:kJ Cg):Prop:=∃σ,(∀x∈Ak r,B7 (Br σ) (Ev σ) s x=hG)/\AQ (Br σ r.head)/\f=Bn (Br σ r.head)/\ns=(DL r σ).pos.map Bn
def aZ(B:Nat)(r:AY)(s:kJ Ag)(st:dr):Prop:=(∀q,st.n.ownBlock=V q->B<=q)/\eY r s st.f.f (st.ns.map DF.f)
def cJ{c:CB}{r:AY}(h:Pp c r f){b a:kJ zA}(m:b∈AE (Kv (Ak r) f) (Ak r) f (Cf r) BM)(w:a∈AE (Kv (Ak r) f) (Ak r) f (C7 r) b):
  eY r f (Bn (Av b r.head)) (IK (Bt a) ((Ak r).map L1)):=by
 have j:=h.parts;have y:∀v e,∀t∈Kv (Ak r) f v e,t.size≠0:=λv e t d=>(h.al v e t d).size
 obtain⟨F,_,_,G⟩:=B4 y (Cf r) BM b rfl (λv k=>(j.ok v (kn k)).1) m;obtain⟨I,q,E,H⟩:=B4 y (C7 r) b a F (λv k=>(j.ok v (Or.inr k)).1) w;have u:∀v∈Cf r,bg a v=bg b v:=λv k=>E v (j.ok v (kn k)).1 (j.apart v k)
 have D:De a:=Gd h.al _ _ (Gd h.al _ _ De.start b m) a w;have p:∀x∈Ak r,∀t∈BQ x,(AJ a t).size≠0:=by
  intro x i t d;by_cases g:t.v=0
  .rcases j.lits x i t d with h|h
   .unfold AJ;rw[fF g];exact h.2
   .rw[g]at h;exact absurd h.1 (by decide)
  .rw[Gt g];rcases j.body x i t d with h|h|h
   .exact absurd h g
   .rw[u _ h];exact G _ h
   .exact H _ h
 have n:Av b r.head=Br (OO a) r.head:=by
  unfold Av Br
  congr 1
  refine gN (λt d=>?_);rw[J1];by_cases g:t.v=0
  .unfold AJ;rw[fF g,fF g]
  .rw[Gt g,Gt g];rcases j.head t d with h|h
   .exact absurd h g
   .exact(u _ h).symm
 refine⟨OO a,λx i=>?_,by rw[<-n];exact Gc (KZ h.al h.parts h.head m),by rw[n],?_⟩
 .have C:DS a (BQ x)=hG:=by
   unfold DS;rw[ik];intro t d;cases hE:SX (AJ a t)with
   |false=>rfl
   |true=>exact absurd ((DQ _).1 hE) (p x i t d)
  have z:B7 (Av a) (AJ a) f x=hG:=by
   unfold Ef at q;have:=(ip.1 q) x i;rw[C,ii]at this;simpa using this
  rw[<-Lw (e:=a) (σ:=OO a) (λt d=>(J1 a t).symm)];exact z
 .unfold IK DL;simp only;rw[List.filter_map,gR,gR];have B:(Ak r).filter ((λx:PL=>x.sort==0)∘L1)=(Ak r).filter λx=>x.kind==97:=by
   refine List.filter_congr (λx _=>?_);show(Fr x.kind==0)=(x.kind==97);exact Q1 x.kind
  rw[B];refine gN (λx i=>?_);obtain⟨i,o⟩:=fT.1 i;have l:=(h.lits x i).1;unfold DN at l;rw[fF (by rw[o];rfl)]at l;show(⟨x.A.name,(x.A.args.map ct).map (Bq (Bt a))⟩:Cg)=Bn (Br (OO a) x.A);unfold Bn Br;simp only;rw[gR,gR]
  congr 1
  refine gN (λt d=>?_);simp only[Function.comp];rw[Hb (l.args t d),J1];refine CK ?_;rcases D.val (l.args t d)with h|h
  .exact absurd h (p x i t (by unfold BQ;rw[fF (by rw[o];rfl)];exact d))
  .exact h
def Sb{B:Nat}{r:AY}{s:kJ Ag}:∀(b:kJ dr) (L:kJ Ag),b.map (λa=>a.f.f)=L.map Bn->(∀f∈L,AQ f)->(∀a∈b,aZ B r s a)->
  ∃c:kJ (GE Ag),c.map GE.head=L/\(∀i∈c,∃σ,(∀x∈Ak r,B7 (Br σ) (Ev σ) s x=hG)/\i=DL r σ)/\b.map (λa=>(a.f.f,a.ns.map DF.f))=c.map λi=>(Bn i.head,i.pos.map Bn)
 |[],[],_,_,_=>⟨[],rfl,λi d=>by simp at d,rfl⟩
 |[],_::_,h,_,_=>by simp at h
 |_::_,[],h,_,_=>by simp at h
 |a::b,f::L,h,hL,hs=>by
  simp only[fS,iH]at h;obtain⟨c,o,n,p⟩:=Sb b L h.2 (λg q=>hL g (by simp[q])) (λx t=>hs x (by simp[t]));obtain⟨_,σ,l,k,e,j⟩:=hs a (by simp);have m:Br σ r.head=f:=J3 k (hL f (by simp)) (by rw[<-e,h.1]);refine⟨DL r σ::c,?_,?_,?_⟩
  .simp only[fS,o];rw[show(DL r σ).head=f from m]
  .intro i d;rcases fx.1 d with rfl|d
   .exact⟨σ,l,rfl⟩
   .exact n i d
  .simp only[fS,p];rw[j,e];rfl
def Ox(k:Nat)(st:dr):kJ ks:=[O st.f.f.name,st.f.tv,X .i64 k,st.n]
section
variable {P:Program} {ops:Array Oper} {Q:Exit->Act->kq->Prop} {md:Region.Mode} {S:kq->Prop} {k:Nat}
def Ci.two{i j:Nat}{l m:Oper}{g:Nat}{f:Array Bool}{a:Act}{w:kq}(t:Region.ready md ops f=[i,j])(A:ops[i]?=V l)(u:ops[j]?=V m)
  (y:∀c:Act->kq->Prop,Hid (∀d b,(i≠k->S b)->Ci P md ops Q S k g (f.setIfInBounds i hG) d b->c d b)->
   if Region.wanted l (yielded ops a.tmps)=hG then l.wp P a w c Q else c (a.put l.dst undef) w)
  (z:∀c:Act->kq->Prop,Hid (∀d b,(j≠k->S b)->Ci P md ops Q S k g (f.setIfInBounds j hG) d b->c d b)->
   if Region.wanted m (yielded ops a.tmps)=hG then m.wp P a w c Q else c (a.put m.dst undef) w):Ci P md ops Q S k (g+1) f a w:=by
 have r:∀(q:Nat) (o:Oper),ops[q]?=V o->(∀c:Act->kq->Prop,Hid (∀d b,(q≠k->S b)->Ci P md ops Q S k g (f.setIfInBounds q hG) d b->c d b)->
   if Region.wanted o (yielded ops a.tmps)=hG then o.wp P a w c Q else c (a.put o.dst undef) w)->wpOp P ops Q q (λd b=>(q≠k->S b)/\Ci P md ops Q S k g (f.setIfInBounds q hG) d b) a w:=by
  intro q o x h;have e:=h _ (λd b v e=>And.intro v e);unfold wpOp;simp only[x];split
  .rename_i p;rw[fF p]at e;exact .inl e
  .rename_i p;rw[fB p]at e;exact e
 refine⟨λs=>(by rw[t]at s;cases s),λq n=>?_⟩;rw[t]at n;simp only[fx,gP,or_false]at n;rcases n with rfl|rfl
 .exact r _ _ A y
 .exact r _ _ u z
end
