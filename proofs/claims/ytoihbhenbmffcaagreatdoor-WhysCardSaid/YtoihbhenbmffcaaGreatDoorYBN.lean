import Derived.Test.YtoihbhenbmffcaaGreatDoorYBM
set_option linter.all false
set_option maxHeartbeats 0
open List renaming length->Z,toArray->j2,replicate->jL
open Option renaming none->Y,some->V
open Go.Value renaming slice->U,int->X,string->O,pointer->j3,agg->jH,bool->jJ
open Bool renaming false->K,true->jj
open Go.Obj renaming cells->j1
open Or renaming inl->j5
open Go renaming World->j7,Value->j8
namespace Go.Proofs.YtoihbhenbmffcaaGreatDoor
open Go.RowKit Go.Proofs.Tryz
def P6(m:Nat)(k:List BF)(s:List Af)(f:List UInt8)(w0:j7)(n:List Nat)(t:∀r,Ac n w0 r->cO r m k s f)(b:Nat)(A:b<=Z f)(j:List UInt8):∀(a:Nat) (e:List g0) (c g d h:Nat) (w:j7) (i:List Nat),Da e->a<=b->(f.take b).drop a=j->Ue w0 n m c g d h a b e i w->
  K0 prog 176 #[j3 (V ⟨c,0,Y⟩),j3 (V ⟨g,0,Y⟩),j3 (V ⟨d,0,Y⟩),j3 (V ⟨h,0,Y⟩)] (λx=>#[jH (j2 (Ai (Bv x)))]) (AE (Kv k s) k s j e) i w:=by
 induction j with
 |nil=>
  intro a e c g d h w i o L l p
  have G:b-a=0:=by
   have:=congrArg List.length l;rw[fz,ft]at this;simp at this;omega
  obtain rfl:a=b:=by omega
  exact SV m k s f w0 n t _ a e c g d h w i o p
 |cons v j ih=>
  intro a e c g d h w i o L l p
  have G:b-a=Z j+1:=by
   have:=congrArg List.length l;rw[fz,ft]at this;simp at this;omega
  have u:a<b:=by omega
  have I:a<Z (f.take b):=by rw[ft];omega
  rw[eQ I]at l;obtain⟨q,z⟩:=List.cons.inj l;rw[iN]at q;exact R7 m k s f w0 n t v j a b e c g d h w i o u A q p (λB D E H N y M C F=>ih (a+1) B D E H N y M C (by omega) z F)
def LN(k:Nat)(d:List BF)(s:List Af)(g:List UInt8)(w0:j7)(q:cO w0 k d s g)(b:Nat)(m:b<=Z g)(l:List UInt8):∀(a:Nat) (e:List g0) (c h f i:Nat) (w:j7) (j:List Nat),Da e->a<=b->(g.take b).drop a=l->Y6 w0 k c h f i a b e j w->
  K0 prog 176 #[j3 (V ⟨c,0,Y⟩),j3 (V ⟨h,0,Y⟩),j3 (V ⟨f,0,Y⟩),j3 (V ⟨i,0,Y⟩)] (λx=>#[jH (j2 (Ai (Bv x)))]) (AE (Kv d s) d s l e) j w:=
 λa e c h f i w j p r o t=>P6 k d s g w0 [] (λu n=>q.kept n) b m l a e c h f i w j p r o t.more
def Yv{P:Program}{fn:Func}{p q:Tmp}{a e:TypeId}(h:fn.results=#[.cell p a,.cell q e]){tmps:Array j8}{w:j7}{b:Nat}{cs:List j8}{t:TypeId}{d:TypeDesc}
  (g:tmps.getD p undef=j3 (V ⟨b,0,Y⟩)) (n:AI w b cs t) (m:P.underlying a=V d) (f:d.isRow=jj) (o:(P.info? a).map (·.size)=V (Z cs))
  {c:Nat} {v:j8} (k:tmps.getD q undef=j3 (V ⟨c,0,Y⟩)) (i:(loadVar e ⟨c,0,Y⟩).run P w=.ok v w):
  (results fn tmps).run P w=.ok (.tuple #[jH (j2 cs),v]) w:=by
 have l:=run_loadVar_mid (P:=P) w b 0 a cs d n.range m f o;have j:tmps[p]?.getD undef=j3 (V ⟨b,0,Y⟩):=by simpa using g
 have r:tmps[q]?.getD undef=j3 (V ⟨c,0,Y⟩):=by simpa using k
 simp only[results,h];simp[je,Result.andThen,j,l,asAddr,r,i]
structure TQ(w:j7)(N:Nat)(B:Bool)(X:List j8)(W:j7):Prop where
 kept:Ac [] w W
 b1:AI W (N+1) X 243
 b2:AI W (N+2) [jJ B] 4
def TQ.own{w:j7}{N c:Nat}{B:Bool}{X:List j8}(h:w.heap.size<=c){β:Type}(A:β->Prop):OwnFrom c (fun(s:β) W=>A s/\TQ w N B X W):=
 B7 (λs W d M a k b=>⟨a.1,EZ a.2.kept k b h,a.2.b1.kept k (CS b a.2.b1),a.2.b2.kept k (CS b a.2.b2)⟩)
def EW(x:List g0)(h:Z x=26):Z (Ai (Bv x))=26/\∀u∈Ai (Bv x),u.oneCell'=jj:=by
 refine⟨by unfold Ai Bv;rw[eL,eL];exact h,λu a=>?_⟩;unfold Ai at a;obtain⟨y,_,rfl⟩:=eH.1 a;rfl
def Nn:Ai (Bv BM)=jL 26 (O ⟨#[]⟩):=by
 unfold Ai Bv BM;rw[List.map_replicate,List.map_replicate,OA];rfl
theorem Ys{w:j7}{b:Nat}{B:Bool}(h:AI w b [jJ B] 4):(loadVar 4 ⟨b,0,Y⟩).run prog w=.ok (jJ B) w:=by
 have c:=h.cell 0;simp at c;simp[go_sem,c,underlying4]
set_option maxRecDepth 100000
theorem Yl(sp:Nat)(n:List BF)(s:List Af)(vs:List UInt8)(Q H:Nat)(L:List UInt8)(e:List g0)(w:j7)(hS:cO w sp n s vs)(he:Da e)(KA:Q<=H)(HI:H<=Z vs)(hr:(vs.take H).drop Q=L):
  Calls prog 197 #[j3 (V ⟨sp,0,Y⟩),X .i64 Q,X .i64 H,jH (j2 (Ai (Bv e)))] w λr z=>∃(x:List g0) (B:Bool),r=.returned (.tuple #[jH (j2 (Ai (Bv x))),jJ B])/\Z x=26/\B= !(AE (Kv n s) n s L e).isEmpty/\(B=jj->x∈AE (Kv n s) n s L e)/\Ac [] w z:=by
 have HC:Hid (∀P v I S f M0,Y6 w sp P v I S Q H e M0 f->K0 prog 176 #[j3 (V ⟨P,0,Y⟩),j3 (V ⟨v,0,Y⟩),j3 (V ⟨I,0,Y⟩),j3 (V ⟨S,0,Y⟩)] (λx=>#[jH (j2 (Ai (Bv x)))]) (AE (Kv n s) n s L e) M0 f):=λP v I S f M0 hB=>LN sp n s vs w hS H HI L Q e P v I S f M0 he KA hr hB
 have G:Hid (∀x∈AE (Kv n s) n s L e,Z x=26):=JV L e he.len;obtain⟨F,HV⟩:∃F,AE (Kv n s) n s L e=F:=⟨_,rfl⟩;rw[HV]at HC G⊢;have hc:=Bj (Bv e);obtain⟨HB,L0⟩:=EW e he.len;have HE:Hid (∀f,Calls prog 141 #[j3 (V ⟨sp,0,Y⟩),X .i64 Q,X .i64 H,jH (j2 (Ai (Bv e)))] f λr z=>∃P v I S,r=.returned (.func (.func 176) #[] #[j3 (V ⟨P,0,Y⟩),j3 (V ⟨v,0,Y⟩),j3 (V ⟨I,0,Y⟩),j3 (V ⟨S,0,Y⟩)])/\
   AI z P [j3 (V ⟨sp,0,Y⟩)] 233/\AI z v (Ai (Bv e)) 243/\AI z I [X .i64 Q] 3/\AI z S [X .i64 H] 3/\(f.heap.size<=P/\f.heap.size<=v/\f.heap.size<=I/\f.heap.size<=S)/\Ac [] f z):=λf=>JP sp Q H _ f hc HB
 have HS:=Ab HB;obtain⟨E,hE⟩:∃E,Ai (Bv e)=E:=⟨_,rfl⟩;have LM:=Ab hE;rw[hE]at hc HB HS HE⊢;obtain⟨N,hN⟩:∃N,w.heap.size=N:=⟨_,rfl⟩;have HN:=Ab hN;obtain⟨w1,AH⟩:∃w1,((w.alloc (j1 (j2 E) 243)).alloc (j1 (j2 (jL 26 (O ⟨#[]⟩))) 243)).alloc (j1 #[jJ K] 4)=w1:=⟨_,rfl⟩;have H7:=Ab AH;have H0:Hid (AI w1 N E 243):=by
  have h:=((AI.new w E 243).alloc (j1 (j2 (jL 26 (O ⟨#[]⟩))) 243)).alloc (j1 #[jJ K] 4);rw[AH,hN]at h;exact h
 have BA:Hid (TQ w N K (jL 26 (O ⟨#[]⟩)) w1):=by
  refine⟨?_,?_,?_⟩
  .rw[<-AH];exact(((Ac.refl [] w).alloc _).alloc _).alloc _
  .have h:=(AI.new (w.alloc (j1 (j2 E) 243)) (jL 26 (O ⟨#[]⟩)) 243).alloc (j1 #[jJ K] 4);rw[AH,fg,hN]at h;exact h
  .have h:=AI.new ((w.alloc (j1 (j2 E) 243)).alloc (j1 (j2 (jL 26 (O ⟨#[]⟩))) 243)) [jJ K] 4;rw[fg,fg,hN]at h;rw[<-AH];exact h
 clear HV hE hS he KA HI hr L0 AH hN;obtain⟨QQ,HG⟩:∃QQ,Mx (bodyPostM Fence.wide 0 prog Tryz.f197 λr z=>∃(x:List g0) (B:Bool),r=.returned (.tuple #[jH (j2 (Ai (Bv x))),jJ B])/\Z x=26/\B= !F.isEmpty/\(B=jj->x∈F)/\Ac [] w z)=QQ:=⟨_,rfl⟩;have HU:Hid (∀(EM:Array j8) (D:Nat) (f:j7) (x:List g0) (B:Bool),EM.getD 8 undef=j3 (V ⟨N+1,0,Y⟩)->EM.getD 9 undef=j3 (V ⟨N+2,0,Y⟩)->w.heap.size<=D->f.heap[D]?=V (.deferred (V []))->TQ w N B (Ai (Bv x)) f->Z x=26->B= !F.isEmpty->(B=jj->x∈F)->QQ .ret ⟨EM,[Fc D]⟩ f):=by
  intro EM D f x B h8 h9 hD hd i o hB hm;rw[<-HG];have HW:D5 w.heap.size [D] f:=⟨by simp,λd DT=>by simp only[ex]at DT;omega,λd DT=>by simp only[ex]at DT;rw[DT];exact hd⟩;refine D9 [D] f HW (λz hs=>?_);have FW:=(hs.own (TQ.own (eM _) (λ_:Unit=>True)) (s:=()) HW ⟨trivial,i⟩).2;exact⟨_,Yv rfl h8 FW.b1 underlying243 rfl (by rw[(EW x o).1];exact Tryz.zH) h9 (Ys FW.b2),x,B,rfl,o,hB,hm,FW.kept⟩
 refine FS func197 rfl (Ja ?_);rw[HG];clear HG;simp only[ntmps197,fU,eF,fb,Nat.reduceAdd,Nat.reduceSub,iK,iL,iY,iR,gd,gO];refine jT (λK1 BT=>?_);go_wp2;refine BT _ _ ?_;clear BT K1;change Code.wp _ _ _ _ (((w.alloc (j1 (j2 E) 243)).alloc (j1 (j2 (jL 26 (O ⟨#[]⟩))) 243)).alloc (j1 #[jJ K] 4));rw[Aa H7,Aa HN];clear H7;refine jT (λK1 BT=>?_);refine jT (λK2 H5=>?_);go_wp2_with ((with_reducible show wpList _ _ _ ({dst:=_,op:=Op.load 243 _,type:=_,pos:=_,after:=_,guard:=_}::_) _ _);refine Bz (by rfl) 243 _ rfl N 0 (by rfl) E _ H0.range underlying243 rfl (by rw[Aa HS];exact Tryz.zH) ?_)
 refine(HE _).mono ?_;rintro _ w3 ⟨d1,d2,d3,d4,rfl,n1,n2,n3,n4,H2,k3⟩;have FA:Hid (TQ w N K (jL 26 (O ⟨#[]⟩)) w3):=⟨BA.kept.trans k3,BA.b1.kept k3 (by simp),BA.b2.kept k3 (by simp)⟩;have Nj:=BA.b2.lt;have HT:=Aa HC d1 d2 d3 d4 w3 [N+1,N+2] ⟨FA.kept,n1,by rw[Aa LM];exact n2,n3,n4,λq t=>by
  have hn:=Aa HN
  have h3:=k3.size
  obtain⟨g1,g2,g3,g4⟩:=H2
  simp only[ey,fP,or_false]at t
  rcases t with rfl|rfl<;>omega⟩
 have M6:=k3.size;have HJ:w.heap.size<=w3.heap.size:=FA.kept.size;clear n1 n2 n3 n4 H2 k3 HC HE H0 BA;go_wp2;refine H5 _ _ ?_;clear H5 K2;refine wp_block ?_;refine Km (T:=243) (q:=10) rfl (enters_of func176 (by kernel_rfl) rfl) HT (λq t=>by
  simp only[ey,fP,or_false]at t
  rcases t with rfl|rfl<;>omega)
  (λFF M W=>(FF=[]/\M=[N+1,N+2])/\TQ w N K (jL 26 (O ⟨#[]⟩)) W) (λc _ _ W=>c=.ret/\∃x,x∈F/\TQ w N jj (Ai (Bv x)) W)
  (TQ.own HJ (λs:List (List g0)×List Nat=>s.1=[]/\s.2=[N+1,N+2])) (λc=>B7 (λs W a M hs k hM=>by
   obtain⟨h1,x,o,i⟩:=hs
   exact⟨h1,x,o,EZ i.kept k hM HJ,i.b1.kept k (CS hM i.b1),i.b2.kept k (CS hM i.b2)⟩)) ⟨⟨rfl,rfl⟩,FA⟩ ?rassign ?rbody ?rdone ?rstop
 case rassign=>
  intro l' x a NA o HK;obtain⟨C,AB⟩:=EW x (G x o);obtain⟨g,A0⟩:∃g,Ai (Bv x)=g:=⟨_,rfl⟩;rw[A0]at C AB HK⊢;have B0:=Ab AB;have G:=Ab C;have R:Hid (g.toArray.size=26):=by show _=_;simp[C]
  clear o A0 C AB;simp only[ee,ej,el]at HK⊢;refine Bi (by rfl) (J5 Ih) ?_;go_wp2_with ((with_reducible show wpList _ _ _ ({dst:=_,op:=Op.store 243 _ _,type:=_,pos:=_,after:=_,guard:=_}::_) _ _);refine gQ rfl 243 _ _ rfl a.heap.size 0 (j2 g) (by rfl) (by rfl) ?_ ?_ ?_ ?_)
  .have h:=(AI.new a (jL 26 (O ⟨#[]⟩)) 243).there;simp only[gM]at h;rw[Aa R];exact h
  .rw[Aa R];exact Tryz.zH
  .exact fX B0
  .refine HK _ (((Ac.refl [] a).alloc (j1 (j2 (jL 26 (O ⟨#[]⟩))) 243)).zI (b:=a.heap.size) (Or.inr (eM _)) g 0) ?_;exact(AI.new a (jL 26 (O ⟨#[]⟩)) 243).zQ g (by rw[Aa G];simp)
 case rbody=>
  rintro l' Bx FF x Nq M a H9 ⟨⟨rfl,rfl⟩,i⟩ hM NB Go;have FT:x∈F:=by rw[H9];simp
  obtain⟨C,AB⟩:=EW x (G x FT);obtain⟨g,A0⟩:∃g,Ai (Bv x)=g:=⟨_,rfl⟩;have MB:=Ab A0;simp only[A0]at C AB Go⊢;have B0:=Ab AB;have G:=Ab C;have R:Hid (g.toArray.size=26):=by show _=_;simp[C]
  have M1:=Ab Go;have A:=Ab i;have K5:=Ab FT;clear i Go C AB A0 H9 FT;simp only[ee,ej,el];have m:Hid (AI (a.setCells (N+1) 0 g) (N+1) g 243/\AI (a.setCells (N+1) 0 g) (N+2) [jJ K] 4/\Ac [N+1,N+2] a (a.setCells (N+1) 0 g)):=by
   refine⟨A.b1.zQ g (by rw[Aa G];simp),?_,(Ac.refl _ a).zI (b:=N+1) (j5 (by simp)) g 0⟩;exact A.b2.kept ((Ac.refl [N+1] a).zI (b:=N+1) (j5 (by simp)) g 0) (by simp)
  refine wpIn_block ?_;refine ia (λK3 H1=>?_);have HR:=Ab H1;clear H1;refine Bi (by rfl) (by rintro ⟨_,_,h⟩;exact h) ?_;go_wp2_with (first
   |((with_reducible show wpList _ _ _ ({dst:=_,op:=Op.load 243 _,type:=_,pos:=_,after:=_,guard:=_}::_) _ _);refine Bz (by rfl) 243 _ rfl Bx 0 (by rfl) g _ M1.range underlying243 rfl (by rw[Aa G];exact Tryz.zH) ?_)
   |((with_reducible show wpList _ _ _ ({dst:=_,op:=Op.store 243 _ _,type:=_,pos:=_,after:=_,guard:=_}::_) _ _);refine gQ rfl 243 _ _ rfl (N+1) 0 (j2 g) (by rfl) (by rfl) (by rw[Aa R];have h:=A.b1.there;simp only[gM]at h;exact h) (by rw[Aa R];exact Tryz.zH) (fX B0) ?_;simp only[iD];generalize a.setCells (N+1) 0 g=W2 at m;have c9:=m.2.1.cell 0;simp at c9;have f9:=m.2.1.frozen 0))
  refine HR _ _ ?_;clear HR K3;refine wpIn_ret ?_;have K9:=m.2.1.set 0 (jJ jj);have HQ:Ac [N+1,N+2] a (W2.setCell ⟨N+2,0,Y⟩ (jJ jj)):=m.2.2.setCell (p:=⟨N+2,0,Y⟩) (j5 (by simp)) _;refine⟨HQ,[],rfl,x,K5,A.kept.trans' HQ (λq t=>Or.inr ?_),?_,K9⟩
  .have hn:=Aa HN;simp only[ey,fP,or_false]at t;rcases t with rfl|rfl<;>omega
  .rw[Aa MB];exact m.1.zA ⟨N+2,0,Y⟩ (by simp) _
 case rdone=>
  rintro D M' a hD ⟨⟨HM,-⟩,i⟩ hd _;refine BT _ _ ?_;clear BT;have A:=Ab i;have HD:Hid (w.heap.size<=D/\a.heap[D]?=V (.deferred (V []))):=⟨by omega,hd⟩;have Mo:=Ab HM;clear i hd HM HT FA;obtain⟨j,hZ⟩:∃j,jL 26 (O ⟨#[]⟩)=j:=⟨_,rfl⟩;have HZ:=Ab hZ;have R:Hid (j.toArray.size=26):=by show _=_;rw[<-hZ];simp
  have B0:Hid (∀u∈j,u.oneCell'=jj):=λu hu=>by rw[<-hZ]at hu;rw[(List.mem_replicate.1 hu).2];rfl
  have LB:Hid (Z j=26):=by show _=_;rw[<-hZ];simp
  rw[hZ]at A;clear hZ;have m:Hid (TQ w N K j ((a.setCells (N+1) 0 j).setCell ⟨N+2,0,Y⟩ (jJ K))/\((a.setCells (N+1) 0 j).setCell ⟨N+2,0,Y⟩ (jJ K)).heap[D]?=V (.deferred (V []))/\AI (a.setCells (N+1) 0 j) (N+2) [jJ K] 4):=by
   have k1:Ac [N+1] a (a.setCells (N+1) 0 j):=(Ac.refl [N+1] a).zI (b:=N+1) (j5 (by simp)) _ 0;have v:=A.b2.kept k1 (by simp);have k2:Ac [N+1,N+2] a ((a.setCells (N+1) 0 j).setCell ⟨N+2,0,Y⟩ (jJ K)):=(k1.mono (by simp)).setCell (p:=⟨N+2,0,Y⟩) (j5 (by simp)) _;have KS:D∉[N+1,N+2]:=by
    intro h;simp only[ey,fP,or_false]at h;have:=Aa HN;rcases h with rfl|rfl<;>omega
   refine⟨⟨A.kept.trans' k2 (λq t=>Or.inr ?_),(A.b1.zQ _ (by simp)).zA ⟨N+2,0,Y⟩ (by simp) _,v.set 0 _⟩,(k2.block D (fx.1 HD.2).1 KS).trans HD.2,v⟩;have hn:=Aa HN;simp only[ey,fP,or_false]at t;rcases t with rfl|rfl<;>omega
  go_wp2_with ((with_reducible show wpList _ _ _ ({dst:=_,op:=Op.store 243 _ _,type:=_,pos:=_,after:=_,guard:=_}::_) _ _);refine gQ rfl 243 _ _ rfl (N+1) 0 (j2 j) (by rfl) (by rw[<-Aa HZ];rfl) (by rw[Aa R];have h:=A.b1.there;rw[Aa LB]at h;exact h) (by rw[Aa R];exact Tryz.zH) (fX B0) ?_;simp only[iD];generalize a.setCells (N+1) 0 j=W2 at m;have c9:=m.2.2.cell 0;simp at c9;have f9:=m.2.2.frozen 0)
  refine HU _ D _ BM K rfl rfl HD.1 m.2.1 ?_ rfl (by rw[Aa Mo];rfl) (λh=>by cases h);rw[Nn,Aa HZ];exact m.1
 case rstop=>
  rintro D c FF M' a hD ⟨rfl,x,o,i⟩ hd;refine wp_ret ?_;refine HU _ D _ x jj rfl rfl (by omega) hd i (G x o) ?_ (λ_=>o);cases F with
  |nil=>simp at o
  |cons y l=>rfl
end Go.Proofs.YtoihbhenbmffcaaGreatDoor
namespace Go.Proofs.YtoihbhenbmffcaaGreatDoor
open Go.RowKit Go.Proofs.Tryz
def ZU(acc:List UInt8)(t:AG):Ve (E5 acc) (ct t)=E5 (Hz acc t):=by
 have f:(ct t).v=(t.v.toNat:Int):=rfl;have c:(ct t).v≠0↔(t.v !=0)=jj:=by
  have:=Wj t;rw[gc,gF,gF]at this;simp[this]
 have b:(ct t).v∈E5 acc↔acc.contains t.v=jj:=by
  rw[jy,f];unfold E5;constructor
  .intro h;obtain⟨u,d,e⟩:=eH.1 h;have:u=t.v:=gn.1 (by omega);rw[<-this];exact d
  .intro h;exact eH.2 ⟨t.v,h,rfl⟩
 unfold Ve Hz;by_cases a:(t.v !=0&& !acc.contains t.v)=jj
 .rw[eI a];rw[eW]at a;rw[eI ⟨c.2 a.1,λh=>by rw[b.1 h]at a;simp at a⟩];unfold E5;rw[fi];rfl
 .rw[eE a,eE (λh=>a (by rw[eW];exact⟨c.1 h.1,by cases hcc:acc.contains t.v with|true=>exact absurd (b.2 hcc) h.2|false=>rfl⟩))]
def O9:∀(a:List AG) (b:List UInt8),(a.map ct).foldl Ve (E5 b)=E5 (He b a)
 |[],b=>rfl
 |t::a,b=>by
  rw[eR,fd,ZU,O9 a];rfl
def Up(ts:List AG):Dn (ts.map ct)=E5 (He [] ts):=O9 ts []
def Yc(r:A8):GU r=r.head.args++(Aj r).flatMap BP:=by
 unfold GU Aj;rw[List.flatMap_map]
 congr 1
def FY{al:UInt8->List g0->List g0}{f:List BF}{s:List Af}(d:∀v e,∀t∈al v e,A3 t):∀(c:List UInt8) (e:List g0),Da e->∀b∈AE al f s c e,Da b
 |[],e,he,b,a=>by
  rw[AE]at a;split at a
  .simp at a
  .rw[ex]at a;rw[a];exact he
 |v::c,e,he,b,a=>by
  rw[AE]at a;split at a
  .simp at a
  .obtain⟨t,g,a⟩:=fA.1 a;exact FY d c _ (he.set _ (d v e t g)) b a
def KV{al:UInt8->List g0->List g0}{r:A8}{n:List UInt8}{s:List Af}(i:∀v e,∀t∈al v e,A3 t)(f:Qs r (Cl r) n)(g:KP r.head){b:List g0}(j:b∈AE al (Aj r) s (Cl r) BM):∀t∈r.head.args,A3 (AJ b t):=by
 intro t c;have m:=Cb (λv e t c=>(i v e t c).size) (Cl r) BM b rfl (λv k=>(f.ok v (j5 k)).1) j;have l:=FY i (Cl r) BM Da.start b j;rcases l.val (g.args t c)with h|h
 .exfalso
  by_cases d:t.v=0
  .unfold AJ at h;rw[eI d]at h;rcases g.args t c with⟨_,a⟩|⟨a,_⟩
   .exact a.size h
   .rw[d]at a;exact absurd a (by decide)
  .rw[Gf d]at h;rcases f.head t c with a|a
   .exact d a
   .exact m.2.2.2 _ a h
 .exact h
def Yh{e:List g0}{r:A8}{c:Dq}(a:R3 c r)(d:KP r.head)(f:∀t∈r.head.args,A3 (AJ e t)):(⟨c.hn,c.zD.map (Bt (Bv e))⟩:CV)=BJ (Av e r.head):=by
 unfold BJ Av;simp only;rw[a.hn,a.zD,fN,fN]
 congr 1
 refine fQ (λt b=>?_);simp only[Function.comp];rw[G0 (d.args t b),CX (f t b)]
def Lh(al:UInt8->List g0->List g0)(r:A8)(s:List Af)(bs:List (List g0)):List Af:=
 (bs.filter λb=> !DD s (Av b r.head)&& !(AE al (Aj r) s (C2 r) b).isEmpty).map λb=>Av b r.head
def Q5(al:UInt8->List g0->List g0)(r:A8)(s:List Af):Lh al r s (AE al (Aj r) s (Cl r) BM)=Qb al r (Cl r) (C2 r) s:=rfl
def VN(al:UInt8->List g0->List g0)(r:A8)(s:List Af)(a:List (List g0))(b:List g0):Lh al r s (a++[b])=Lh al r s a++if(!DD s (Av b r.head)&& !(AE al (Aj r) s (C2 r) b).isEmpty)=jj then[Av b r.head] else[]:=by
 unfold Lh;rw[ii,fi]
 congr 1
 simp only[gm,List.filter_nil];split<;>rfl
structure OT(c:Dq)(r:A8)(s:List Af):Prop where
 zt:R3 c r
 fit:Ov c
 zS:Z (Bp c)<=90000
 lits:∀x∈Aj r,DA x/\Pm (LP x)
 parts:Qs r (Cl r) (C2 r)
 head:KP r.head
 fitA:Ze s (Aj r)
 canon:∀f∈s,AM f
 len:Z s<=10000
def OT.al{c:Dq}{r:A8}{s:List Af}(h:OT c r s):∀v e,∀t∈Kv (Aj r) s v e,A3 t:=λv e t a=>MT h.canon h.fitA v e t ((G2 (Aj r) s v e t).1 a)
def OT.order{c:Dq}{r:A8}{s:List Af}(h:OT c r s):Dn (Bp c)=E5 (Cl r++C2 r):=by
 rw[h.zt.zS,Up,Yc,MZ]
def OT.ofHead{c:Dq}{r:A8}{s:List Af}(h:OT c r s):Dn c.zD=E5 (Cl r):=by
 rw[h.zt.zD,Up];rfl
def Na(a:List UInt8):Z (E5 a)=Z a:=by unfold E5;simp
def F2.fst{a:List Oi}{b:List Bw}(h:F2 W8 a b):a.map Prod.fst=(b.map Prod.fst).map LP:=by
 induction h using F2.ind with
 |nil=>rfl
 |cons h1 _ ih=>simp only[eR,ih,h1.eq]
def OT.yC{c:Dq}{r:A8}{s:List Af}(h:OT c r s):Z (Cl r++C2 r)<=26:=by
 have b:=(E2 (r.head.args++(Aj r).flatMap BP) [] iq).2.1;rw[MZ]at b;have d:=Ht (Cl r++C2 r) ((List.range 26).map λi=>UInt8.ofNat (i+65)) b (λv e=>by
  have a:=(h.parts.ok v (eG.1 e)).1
  refine eH.2 ⟨v.toNat-65,jq.2 (by have:=a.1;have:=a.2;omega),?_⟩
  apply gn.1
  rw[UInt8.toNat_ofNat']
  have:=a.1
  have:=a.2
  omega)
 simpa using d
def OT.sea{c:Dq}{r:A8}{s:List Af}(h:OT c r s){w:j7}{f k j:Nat}{e:Option Addr}{b:Nat}{d:Option Addr}{a:Nat}{l:Option Addr}{i:Nat}{fs:List Fe}(g:NU w f k j (U e (Z c.zC) b) (U d (Z (Dn (Bp c))) a) l i fs)(t:CE w 0 (U e (Z c.zC) b) c.zC)(m:w.ownsRow 0 21 1 (U d (Z (Dn (Bp c))) a) (Z (Dn (Bp c))) ((Dn (Bp c)).flatMap AP))(n:Dl fs s):cO w f (Aj r) s (Cl r++C2 r):=by
 have p:Z (Aj r)<=1000:=by
  have q:=congrArg List.length (F2.fst h.zt.lits);have u:=h.fit.lits;unfold Aj;simp at q⊢;omega
 rw[h.order]at g m;exact⟨⟨k,j,e,b,c.zC,d,a,l,i,fs,g,t,F2.fst h.zt.lits,m,n⟩,h.len,h.lits,p,by have:=h.yC;omega,h.fitA,λv o=>(h.parts.ok v (eG.1 o)).1⟩
structure Si where
 f:Fe
 n:j8
 ns:List Fe
structure J1(w:j7)(st:Si):Prop where
 pf:DL w st.f
 len:Z st.f.f.zB<=1000
 nds:Lx w st.n st.ns
 sl:∃a c,st.n=U a (Z st.ns) c
def J1.map{w w':j7}{st:Si}(h:J1 w st)(f:∀p,DL w p->DL w' p)(g:w.ownsRow 0 104 2 st.n (Z st.ns) (st.ns.flatMap AW)->w'.ownsRow 0 104 2 st.n (Z st.ns) (st.ns.flatMap AW)):J1 w' st:=
 ⟨f _ h.pf,h.len,⟨g h.nds.row,λp a=>⟨f p (h.nds.each p a).1,(h.nds.each p a).2⟩⟩,h.sl⟩
def J1.kept{w w':j7}{st:Si}(h:J1 w st)(k:Ac [] w w'):J1 w' st:=h.map (λp a=>a.kept k) (λb=>Ad b k (by simp))
def dW(r:A8)(s:List Af)(f:CV)(ns:List CV):Prop:=∃σ,(∀x∈Aj r,Cg (Bh σ) (DU σ) s x=jj)/\AM (Bh σ r.head)/\f=BJ (Bh σ r.head)/\ns=(CR r σ).pos.map BJ
def aN(B:Nat)(r:A8)(s:List Af)(st:Si):Prop:=(∀q,st.n.ownBlock=V q->B<=q)/\dW r s st.f.f (st.ns.map Fe.f)
def cj{c:Dq}{r:A8}{s:List Af}(h:OT c r s){b a:List g0}(l:b∈AE (Kv (Aj r) s) (Aj r) s (Cl r) BM)(u:a∈AE (Kv (Aj r) s) (Aj r) s (C2 r) b):
  dW r s (BJ (Av b r.head)) (Iw (Bv a) ((Aj r).map LP)):=by
 have i:=h.parts;have w:∀v e,∀t∈Kv (Aj r) s v e,t.size≠0:=λv e t d=>(h.al v e t d).size
 obtain⟨F,_,_,G⟩:=Cb w (Cl r) BM b rfl (λv j=>(i.ok v (j5 j)).1) l;obtain⟨H,p,E,y⟩:=Cb w (C2 r) b a F (λv j=>(i.ok v (Or.inr j)).1) u;have q:∀v∈Cl r,aR a v=aR b v:=λv j=>E v (i.ok v (j5 j)).1 (i.apart v j)
 have D:Da a:=FY h.al _ _ (FY h.al _ _ Da.start b l) a u;have o:∀x∈Aj r,∀t∈BP x,(AJ a t).size≠0:=by
  intro x g t d;by_cases f:t.v=0
  .rcases i.lits x g t d with h|h
   .unfold AJ;rw[eI f];exact h.2
   .rw[f]at h;exact absurd h.1 (by decide)
  .rw[Gf f];rcases i.body x g t d with h|h|h
   .exact absurd h f
   .rw[q _ h];exact G _ h
   .exact y _ h
 have m:Av b r.head=Bh (Oe a) r.head:=by
  unfold Av Bh
  congr 1
  refine fQ (λt d=>?_);rw[J3];by_cases f:t.v=0
  .unfold AJ;rw[eI f,eI f]
  .rw[Gf f,Gf f];rcases i.head t d with h|h
   .exact absurd h f
   .exact(q _ h).symm
 refine⟨Oe a,λx g=>?_,by rw[<-m];exact FX (KV h.al h.parts h.head l),by rw[m],?_⟩
 .have C:DQ a (BP x)=jj:=by
   unfold DQ;rw[gN];intro t d;cases hE:So (AJ a t)with
   |false=>rfl
   |true=>exact absurd ((DO _).1 hE) (o x g t d)
  have z:Cg (Av a) (AJ a) s x=jj:=by
   unfold D8 at p;have:=(gC.1 p) x g;rw[C,gq]at this;simpa using this
  rw[<-Lq (e:=a) (σ:=Oe a) (λt d=>(J3 a t).symm)];exact z
 .unfold Iw CR;simp only;rw[List.filter_map,fN,fN];have B:(Aj r).filter ((λx:PL=>x.sort==0)∘LP)=(Aj r).filter λx=>x.kind==97:=by
   refine List.filter_congr (λx _=>?_);show(Fj x.kind==0)=(x.kind==97);exact Qv x.kind
  rw[B];refine fQ (λx g=>?_);obtain⟨g,n⟩:=e9.1 g;have k:=(h.lits x g).1;unfold DA at k;rw[eI (by rw[n];rfl)]at k;show(⟨x.A.name,(x.A.args.map ct).map (Bt (Bv a))⟩:CV)=BJ (Bh (Oe a) x.A);unfold BJ Bh;simp only;rw[fN,fN]
  congr 1
  refine fQ (λt d=>?_);simp only[Function.comp];rw[G0 (k.args t d),J3];refine CX ?_;rcases D.val (k.args t d)with h|h
  .exact absurd h (o x g t (by unfold BP;rw[eI (by rw[n];rfl)];exact d))
  .exact h
def RA{B:Nat}{r:A8}{s:List Af}:∀(b:List Si) (L:List Af),b.map (λa=>a.f.f)=L.map BJ->(∀f∈L,AM f)->(∀a∈b,aN B r s a)->
  ∃c:List (Gp Af),c.map Gp.head=L/\(∀i∈c,∃σ,(∀x∈Aj r,Cg (Bh σ) (DU σ) s x=jj)/\i=CR r σ)/\b.map (λa=>(a.f.f,a.ns.map Fe.f))=c.map λi=>(BJ i.head,i.pos.map BJ)
 |[],[],_,_,_=>⟨[],rfl,λi d=>by simp at d,rfl⟩
 |[],_::_,h,_,_=>by simp at h
 |_::_,[],h,_,_=>by simp at h
 |a::b,f::L,h,hL,hs=>by
  simp only[eR,gW]at h;obtain⟨c,o,n,p⟩:=RA b L h.2 (λg q=>hL g (by simp[q])) (λx t=>hs x (by simp[t]));obtain⟨_,σ,l,k,e,j⟩:=hs a (by simp);have m:Bh σ r.head=f:=Mg k (hL f (by simp)) (by rw[<-e,h.1]);refine⟨CR r σ::c,?_,?_,?_⟩
  .simp only[eR,o];rw[show(CR r σ).head=f from m]
  .intro i d;rcases ey.1 d with rfl|d
   .exact⟨σ,l,rfl⟩
   .exact n i d
  .simp only[eR,p];rw[j,e];rfl
def Jz(k:Nat)(st:Si):List j8:=[O st.f.f.name,st.f.tv,X .i64 k,st.n]
section
variable {P:Program} {ops:Array Oper} {Q:Exit->Act->j7->Prop} {md:Region.Mode} {S:j7->Prop} {k:Nat}
def CI.two{i j:Nat}{g l:Oper}{fuel:Nat}{e:Array Bool}{a:Act}{w:j7}(p:Region.ready md ops e=[i,j])(y:ops[i]?=V g)(t:ops[j]?=V l)
  (z:∀c:Act->j7->Prop,Hid (∀d b,(i≠k->S b)->CI P md ops Q S k fuel (e.setIfInBounds i jj) d b->c d b)->
   if Region.wanted g (yielded ops a.tmps)=jj then g.wp P a w c Q else c (a.put g.dst undef) w)
  (v:∀c:Act->j7->Prop,Hid (∀d b,(j≠k->S b)->CI P md ops Q S k fuel (e.setIfInBounds j jj) d b->c d b)->
   if Region.wanted l (yielded ops a.tmps)=jj then l.wp P a w c Q else c (a.put l.dst undef) w):CI P md ops Q S k (fuel+1) e a w:=by
 have r:∀(q:Nat) (o:Oper),ops[q]?=V o->(∀c:Act->j7->Prop,Hid (∀d b,(q≠k->S b)->CI P md ops Q S k fuel (e.setIfInBounds q jj) d b->c d b)->
   if Region.wanted o (yielded ops a.tmps)=jj then o.wp P a w c Q else c (a.put o.dst undef) w)->wpOp P ops Q q (λd b=>(q≠k->S b)/\CI P md ops Q S k fuel (e.setIfInBounds q jj) d b) a w:=by
  intro q o u h;have f:=h _ (λd b x f=>And.intro x f);unfold wpOp;simp only[u];split
  .rename_i m;rw[eI m]at f;exact .inl f
  .rename_i m;rw[eE m]at f;exact f
 refine⟨λs=>(by rw[p]at s;cases s),λq n=>?_⟩;rw[p]at n;simp only[ey,fP,or_false]at n;rcases n with rfl|rfl
 .exact r _ _ y z
 .exact r _ _ t v
end
