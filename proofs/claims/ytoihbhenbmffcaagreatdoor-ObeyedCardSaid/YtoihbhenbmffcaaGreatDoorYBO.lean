import Derived.Test.YtoihbhenbmffcaaGreatDoorYBE
import Derived.Test.YtoihbhenbmffcaaGreatDoorYBK
set_option linter.all false
set_option maxHeartbeats 0
open List renaming length->Z
open Option renaming none->Y,some->V
open Go.Value renaming slice->U,int->X,string->O,pointer->kt,ownBlock->lX
open Go.IntKind renaming i64->J
open Go.Obj renaming cells->j2
open Or renaming inl->lx,inr->ly
open Go renaming World->l9,Value->lN
open Go.RowKit renaming Hid->lO
open Go.World renaming cell?->lP,ownsRow->lQ
open Go.Act renaming put->lY
namespace Go.Proofs.YtoihbhenbmffcaaGreatDoor
open Go.RowKit Go.Proofs.Tryz
def F2.at{α β:Type}{R:α->β->Prop}:∀{l:mc α} {m:mc β},F2 R l m->∀k (c:k<Z l) (d:k<Z m),R l[k] m[k]
 |[],[],_,k,c,_=>by simp at c
 |a::l,b::m,h,0,_,_=>h.1
 |a::l,b::m,h,k+1,c,d=>F2.at (l:=l) (m:=m) h.2 k (by simpa using c) (by simpa using d)
def D7.put{w':World}{b n:Nat}{L:zA->Nat}{D:DataW Unit}{x:zA}{v:Nat}(d:Maps.IsMap D)(c:∀y,D.atKey (Sq y) (.lit (.int .i64 0))=.lit (.int .i64 (L y)))(h:w'.ownsMap prog 9 (plainElem prog 3) b n (D.put (Sq x) (.lit (.int .i64 v)))):D7 w' b n (OJ L x v):=by
 refine⟨_,h,?_,λy=>?_⟩
 .obtain⟨f,g,_,_,_,e⟩:=h;exact⟨_,e⟩
 .by_cases a:y=x
  .subst a;rw[GQ,Maps.atKey_put_same d (by unfold Sq;exact trivial)]
  .rw[I0 _ a,Maps.atKey_put_other (λe=>a (aU e))];exact c y
def D7.mono{w:l9}{b n a:Nat}{L:zA->Nat}(h:D7 w b n L)(e:n<=a):D7 w b a L:=by
 obtain⟨D,d,c⟩:=h.at_;exact⟨D,d.mono e,c⟩
def RH:∀(a:mc A6),Ea a (λ_=>0)=0
 |[]=>rfl
 |c::a=>by
  have e:Ea (c::a) (λ_=>0)=0+Ea a (λ_=>0):=by unfold Ea;rw[ii,List.sum_cons]
  rw[e,RH a]
def Xc(x:zA):(DataW.map []:DataW Unit).atKey (Sq x) (.lit (.int .i64 0))=.lit (.int .i64 0):=by
 first|rfl|(unfold Sq;rfl)|simp[DataW.atKey]
def eR(rcs:mc A6)(zS:zA->Nat)(w:l9)(r:Ending)(w':l9):Prop:=∃(mb n:Nat) (L:zA->Nat),r=.returned (.map (V mb))/\D7 w' mb n L/\Cn rcs L/\(∀x,L x<=zS x)/\w.heap.size<=mb/\Ac [] w w'
set_option maxRecDepth 100000
theorem MM(H0:Option Addr)(HW:Nat)(f:mc Db)(d:mc A6)(w:World)(l:zA->Nat)(hP:C9 w (.slice H0 f.length HW) f)(hC:F2 QH f d)(M2:f.length<=1000)(HY:∀c∈f,c.zD.length<=1000)(HE:∀c∈f,c.hn.size<=1000000/\∀p∈c.zD,p.1.an.size<=1000000)(hL:Cn d l)(H1:∀x,l x<=1000)(HO:Ea d l<=100000):
  Calls prog 166 #[.slice H0 f.length HW] w λr w'=>eR d l w r w':=by
 have H2:=Ab hP;have L0:=Ab hC;have H7:=Ab HY;have IJ:=Ab HE;have H3:=Ab hL;have M:=Ab H1;have K3:=Ab HO;have HC:=Ab hC.lenX;have W:Hid (D7 (w.alloc (.map #[] 0)) w.heap.size 0 (λ_=>0)):=⟨.map [],World.ownsMap_made w _ _ _,⟨_,rfl⟩,Xc⟩;have FB:=Ab ((me [] w).alloc (.map #[] 0));have LM:= @run_makeMap prog;obtain⟨n,Ax⟩:∃n,w.heap.size=n:=⟨_,rfl⟩;have Ha:=Ab Ax;clear hP hC HY HE hL H1 HO;go_enter func166,ntmps166;go_wp2_with fail
 generalize hw1:w.alloc (.map #[] 0)=w1 at W FB⊢;clear hw1 LM;rw[Ax]at W
 try rw[Ax]
 clear Ax
 go_loopg [4] (Ea d l+2) (λgk rv wr=>∃(R:Bool) (L:zA->Nat),rv=.bool R/\gk=(if R then Ea d l-Ea d L+2 else 1)/\Hid (D7 wr n (Ea d L) L)/\Hid (∀x,L x<=l x)/\Hid (R=false->Cn d L)/\Hid (Ac [] w wr))
 case atStart=>
  refine⟨true,λ_=>0,rfl,?_,W.mono (ik _),λx=>ik _,λh=>(by cases h),FB⟩;rw[gY rfl,RH,Nat.sub_zero]
 case round=>
  clear W FB;obtain⟨R,L,rfl,HZ,u,BT,LS,s⟩:=hrel;have HG:=Ab HZ;clear HZ;cases R with
  |false=>
   have H8:=Ab (LS rfl);go_wp2;go_ret;exact⟨n,_,L,rfl,u,H8,BT,by have:=Aa Ha;omega,s⟩
  |true=>
   go_wp2_with fail
   go_loopg [4,12] f.length (λM1 rv i wq=>∃(k:Nat) (m:Bool) (a:zA->Nat),rv=.bool m/\i=.int .i64 k/\k<=f.length/\M1=f.length-k/\Hid ((d.take k).foldl En (L,false)=(a,m))/\Hid (D7 wq n (Ea d a) a)/\Hid (Ac [] w wq))
   case atStart=>exact⟨0,false,L,rfl,rfl,by omega,rfl,rfl,u,s⟩
   case round=>
    clear u s;obtain⟨k,m,a,rfl,rfl,hk,HJ,AT,u,s⟩:=hrel;have HR:=Ab HJ;clear HJ;have Go:Hid ((∀x,a x<=l x)/\Ea d a<=Ea d l):=by
     have h:=Jo H3 (d.take k) L false (λc hc=>jr hc) BT;rw[Aa AT]at h;exact⟨h.2.1,Xu h.2.1⟩
    by_cases Bx:k<f.length
    ·(have B2:k<d.length:=by have:=Aa HC;omega);have T:=L0.at k Bx B2;obtain⟨g,Nj,hp,e,FC,FT,AO,Q,P,o,he,HH,d0,d1,d2,d3⟩:=Fq (H2.kept s) k Bx;simp only[gM]at he;obtain⟨rfl,-,rfl⟩:=he;have N:f[k]∈f:=gL Bx;have EX:=H2.each _ N;have B9:=Aa H7 _ N;have G:=Aa IJ _ N;rw[HH]at T EX B9 G;have FA:=Ab (s.alloc (.cells #[.int .i64 hp,.string e,.slice FT FC.length AO,.slice Q o.length P] 189));have FO:=Ab (u.zV ((me [] wr).alloc (.cells #[.int .i64 hp,.string e,.slice FT FC.length AO,.slice Q o.length P] 189)) (by simp));have HI:=Ab (mf wr [.int .i64 hp,.string e,.slice FT FC.length AO,.slice Q o.length P] 189);have z:=Aa Go;have BA:=Ab (OU n (Ea d a) a Q P o _ FO (EX.body.kept FA (by simp)) B9 (λx=>by have:=z.1 x;have:=Aa M x;omega) G.2);have CC:GT a 0 (o.map Prod.fst)=Gx a (Ak d[k]):=by
      have t:=F2.fst T.lits;simp only at t;rw[t,Pj];rfl
     have C:e=d[k].head.name:=T.hn;have EU:Hid ((d.take (k+1)).foldl En (L,false)=En (a,m) d[k]):=by
      show _=_;rw[gQ B2,jo,Aa AT];rfl
     have EM:Hid (En (a,m) d[k]=if a e<GT a 0 (o.map Prod.fst)then(OJ a e (GT a 0 (o.map Prod.fst)),true)else(a,m)):=by
      show _=_;unfold En;rw[CC,C]
     have LB:Hid (∀v,a e<v->Ea d a+1<=Ea d (OJ a e v)):=by
      intro v hv;refine cS (λx=>?_) (gL B2) ?_
      .by_cases hx:x=e
       .rw[hx,GQ];omega
       .rw[I0 _ hx];exact ig _
      .rw[<-C,GQ];exact hv
     have EK:=Xw G.1;have I:=z.1 e;have KS:=Aa M e;(have Nd:Hid (a e<=1000):=by show a e<=1000;omega);(have K9:Hid (Ea d a<=100000):=by have:=z.2;have:=Aa K3;show Ea d a<=100000;omega);have HP:Hid (GT a 0 (o.map Prod.fst)<=100000):=by
      have h:=MZ (L:=a) (b:=2000) (Ak d[k]) 0 (by omega) (λx hx=>⟨λ_=>by have:=z.1 x.A.name;have:=Aa M x.A.name;omega,λ_=>by have:=z.1 x.A.name;have:=Aa M x.A.name;omega⟩);rw[CC];have t:Gx a (Ak d[k])<=2000:=h;show Gx a (Ak d[k])<=100000;omega
     clear T EX B9 G N HH z CC C I KS;obtain⟨j,H4⟩:∃j,GT a 0 (o.map Prod.fst)=j:=⟨_,rfl⟩;rw[H4]at BA EM HP;clear H4 s u Go;(go_wp2_with fail);refine BA.mono ?_;rintro _ w3 ⟨rfl,S⟩;have HX:=Ab (FA.trans S);have BS:=FO.zV S (by simp);have M0:=Ab BS;have A2:=HI.kept S (by simp);have e0:=A2.cell 0;have e1:=A2.cell 1;simp at e0 e1;obtain⟨D,FF,HT,hD⟩:=BS.at_;have K7:=Ab HT;have HD:=Ab hD;obtain⟨y,I⟩:∃y,a e=y:=⟨_,rfl⟩;have E:=Ab I;clear BS A2 HI FO FA BA S d0 d1 d2 d3 HT hD I;by_cases HA:y<j
     ·(have LL:(y:Int)<(j:Int):=by omega);have MY:plainElem (H:=Unit) prog 3 (.int .i64 (j:Int))=some (.lit (.int .i64 (j:Int)),[]):=plainElem_int underlying3 (by
       have:=Aa HP
       simp[Lit.wf,IntKind.min,IntKind.max,IntKind.signed,IntKind.bits]
       omega)
      (have C:Ea d a<maxLen:=by have:=Aa K9;unfold maxLen;omega);clear HA;go_wp2_with (first
       |(at_lookup;refine wpList_lookup_own_int _ rfl _ _ 269 rfl 9 3 .i64 (Maps.string_keyed underlying9) underlying269 underlying3 (zeroValue3 _) n (Ea d a) D rfl FF _ _ rfl EK ?_;intro c F EY;obtain rfl:c=(y:Int):=(by have h:=F.symm.trans (HD e);rw[Aa E]at h;simpa using h);clear F EY)
       |(at_mapUpdate;refine wpList_mapUpdate_own _ rfl _ _ _ 269 rfl 9 3 (Maps.string_keyed underlying9) underlying269 _ n (Ea d a) D rfl FF C _ _ (Sq e) rfl rfl EK _ [] MY ?_;intro w4 Jx Ix))
      have K4:Hid (D7 w4 n (Ea d (OJ a e j)) (OJ a e j)):=(D7.put K7 HD Jx).mono (LB j (by have:=Aa E;omega));have Mo:Hid (Ac [] w w4):=HX.grown Ix (λq hq=>Or.inr (by simp only[gT]at hq;have:=Aa Ha;omega));have DT:Hid ((d.take (k+1)).foldl En (L,false)=(OJ a e j,true)):=by show _=_;rw[Aa EU,Aa EM,gY (by have:=Aa E;omega)]
      go_roundg (f.length-(k+1))
      case measure=>have:=Aa HR;omega
      case rel=>exact⟨k+1,true,OJ a e j,rfl,by go_num,by omega,rfl,DT,K4,Mo⟩
     ·(have LL:¬(y:Int)<(j:Int):=by omega);(have DT:Hid ((d.take (k+1)).foldl En (L,false)=(a,m)):=by show _=_;rw[Aa EU,Aa EM,gV (by have:=Aa E;omega)]);clear HA;go_wp2_with (at_lookup;refine wpList_lookup_own_int _ rfl _ _ 269 rfl 9 3 .i64 (Maps.string_keyed underlying9) underlying269 underlying3 (zeroValue3 _) n (Ea d a) D rfl FF _ _ rfl EK ?_;intro c F EY;obtain rfl:c=(y:Int):=(by have h:=F.symm.trans (HD e);rw[Aa E]at h;simpa using h);clear F EY)
      go_roundg (f.length-(k+1))
      case measure=>have:=Aa HR;omega
      case rel=>exact⟨k+1,m,a,rfl,by go_num,by omega,rfl,DT,M0,HX⟩
    .have HL:Hid (Ld d L=(a,m)):=by
      have h:=Aa AT;rw[gR (by have:=Aa HC;omega)]at h;exact h
     have HF:=Ab (WR H3 BT);go_wp2_with fail
     go_roundg (if m then Ea d l-Ea d a+2 else 1)
     case measure=>
      have B:=Aa HF;rw[Aa HL]at B;have t:=Aa HG;simp only[if_true]at t;cases m with
      |true=>
       have h3:=B.2.2.1 rfl;have h4:=B.2.2.2;simp only at h3 h4;simp only[if_true];omega
      |false=>
       simp only[gO,if_false];omega
     case rel=>
      refine⟨m,a,rfl,rfl,u,λx=>Go.1 x,λhm=>?_,s⟩;have B:=HF.2.1;rw[Aa HL]at B;obtain⟨t,h3⟩:=B hm;simp only at t;rw[t];exact h3
theorem Tryz.yU:(Tryz.prog.info? 221).map (λi=>(i.zero,i.size,i.bytes))=V (V (U Y 0 0),1,24):=by kernel_rfl
abbrev OL:=mc Nat×lN
structure DR(w:l9)(base:Nat)(pv:lN)(ps:mc OL):Prop where
 row:lQ w base 221 1 pv (Z ps) (ps.flatMap λp=>[p.2])
 each:∀p∈ps,lQ w base 3 1 p.2 (Z p.1) (p.1.flatMap CB)
 apart:ps.Pairwise λa b=>∀q,a.2.ownBlock=V q->b.2.ownBlock≠V q
def DR.kept{w w':l9}{base:Nat}{b:lN}{a:mc OL}(h:DR w base b a)(k:Ac [] w w'):DR w' base b a:=⟨Ad h.row k (by simp),λp c=>Ad (h.each p c) k (by simp),h.apart⟩
def Zd{w w':l9}{v:lN}{base d n m:Nat}{l:mc lN}{a:lN}{c:mc lN}(h:lQ w base 3 1 v n l)(b:lQ w d 221 1 a m c)(f:w.grownBy w' a.ownBlock):lQ w' base 3 1 v n l:=
 je h f (by
  cases hp:v.ownBlock with
  |none=>exact lx rfl
  |some q=>exact ly (λe=>A7 h b (by decide) q hp e.symm))
def RQ{w:l9}{base:Nat}{l:lN}{a:mc OL}(h:DR w base l a)(k:Nat)(i:k<Z a):∃g j f b,l=U (V ⟨g,0,Y⟩) (Z a) j/\a[k].2=U f a[k].1.length b/\lP w ⟨g,k,Y⟩=V (U f a[k].1.length b):=by
 obtain⟨g,j,m,_,n⟩:=AF h.row (λc _=>rfl) k i;have d:=n k i 0 (by omega);obtain⟨f,b,e⟩:=Al (h.each _ (gL i));simp[e]at d;exact⟨g,j,f,b,m,e,d⟩
structure Hx(f:Nat->Nat)(k:Nat)(ps:mc OL):Prop where
 lists:∀j (hj:j<Z ps),ps[j].1=(List.range k).filter λi=>f i==j
 top:∀i,i<k->f i<Z ps
 len:Z ps<=1001
def Hx.more{f:Nat->Nat}{k:Nat}{a:mc OL}(h:Hx f k a)(l:Z a<=1000)(v:lN):Hx f k (a++[([],v)]):=by
 refine⟨λj d=>?_,λi b=>by have:=h.top i b;simp;omega,by simp;omega⟩;by_cases c:j<Z a
 .rw[kj c];exact h.lists j c
 .have e:j=Z a:=by simp at d;omega
  subst e;rw[List.getElem_append_right (ig _)];simp only[Nat.sub_self,kT]
  symm
  rw[lq];intro i b g;have m:=h.top i (k0.1 b);have:f i=Z a:=by simpa using g
  omega
def Hx.put{f:Nat->Nat}{k:Nat}{a:mc OL}(h:Hx f k a)(b:f k<Z a)(v:lN):Hx f (k+1) (a.set (f k) (a[f k].1++[k],v)):=by
 refine⟨λj c=>?_,λi l=>?_,by rw[jm];exact h.len⟩
 .have d:j<Z a:=by rw[jm]at c;exact c
  rw[List.range_succ,jX,List.getElem_set];split
  .rename_i e;subst e;simp only;rw[h.lists _ b]
   congr 1
   simp
  .rename_i e;rw[h.lists j d];(have:([k].filter λi=>f i==j)=[]:=by simp;exact e);rw[this,iJ]
 .rw[jm];by_cases g:i=k
  .rw[g];exact b
  .exact h.top i (by omega)
def Zj(b:mc OL)(j:Nat)(x:OL):(b.set j x).flatMap (λp=>[p.2])=(b.flatMap λp=>[p.2]).set j x.2:=by
 have e:∀l:mc OL,l.flatMap (λp=>[p.2])=l.map λp=>p.2:=λl=>by
  induction l with
  |nil=>rfl
  |cons a l ih=>simp[ih]
 rw[e,e,lL]
def DR.put{w o w':l9}{base:Nat}{g cap:Nat}{c:mc OL}{j:Nat}(r:j<Z c){x:OL}(h:DR w base (U (V ⟨g,0,Y⟩) (Z c) cap) c)(C:w.grownBy o c[j].2.ownBlock)(I:lQ o base 3 1 x.2 (Z x.1) (x.1.flatMap CB))(B:∀q,x.2.ownBlock=V q->c[j].2.ownBlock=V q\/w.heap.size<=q)
  (A:w'=o.setCell ⟨g,j,Y⟩ x.2):DR w' base (U (V ⟨g,0,Y⟩) (Z c) cap) (c.set j x):=by
 have L:=h.each _ (gL r);have D:lQ o base 221 1 (U (V ⟨g,0,Y⟩) (Z c) cap) (Z c) (c.flatMap λp=>[p.2]):=je h.row C (ly (λe=>A7 h.row L (by decide) g rfl e.symm));have G:∀i (f:i<Z c),i≠j->lQ o base 3 1 c[i].2 c[i].1.length (c[i].1.flatMap CB):=λi f F=>je (h.each _ (gL f)) C (by
  cases s:c[i].2.ownBlock with
  |none=>exact lx rfl
  |some q=>
   refine ly (λe=>?_)
   have l:=jI.1 h.apart
   rcases Nat.lt_or_gt_of_ne F with d|d
   .exact l i j f r d q s e.symm
   .exact l j i r f d q e.symm s)
 have E:∀{v:lN} {n:Nat} {z:mc lN},lQ o base 3 1 v n z->lQ w' base 3 1 v n z:=fun{v n z} hv=>by
  rw[A];exact Ag hv (λe=>A7 hv D (by decide) g e rfl) _
 refine⟨?_,λp s=>?_,?_⟩
 .rw[jm,Zj,A];exact Bw D j x.2
 .obtain⟨i,f,rfl⟩:=iF s;rw[jm]at f;rw[List.getElem_set];split
  .exact E I
  .rename_i e;exact E (G i f (λH=>e H.symm))
 .have l:=jI.1 h.apart;refine jI.2 (λa b u t y q m k=>?_);rw[jm]at u t;rw[List.getElem_set]at m k;split at m
  .rename_i e;subst e;rw[gV (by omega)]at k;rcases B q m with d|d
   .exact l j b r t y q d k
   .have:=((h.each _ (gL t)).lt q k).2;omega
  .split at k
   .rename_i e;subst e;rcases B q k with d|d
    .exact l a j u r y q m d
    .have:=((h.each _ (gL u)).lt q m).2;omega
   .exact l a b u t y q m k
def GA(pcs:mc Db)(i:Nat):zA:=((pcs[i]?).map Db.hn).getD ByteArray.empty
def Yq(pcs:mc Db)(rcs:mc A6)(zS:zA->Nat)(w:l9)(r:Ending)(w':l9):Prop:=∃(ad:Option Addr) (cp:Nat) (ps:mc OL) (L:zA->Nat),r=.returned (U ad (Z ps) cp)/\DR w' w.heap.size (U ad (Z ps) cp) ps/\Hx (λi=>L (GA pcs i)) (Z pcs) ps/\Cn rcs L/\(∀x,L x<=zS x)/\Ac [] w w'
theorem WS(HP:Option Addr)(HL:Nat)(m:mc Db)(AO:mc A6)(w:l9)(AT:zA->Nat)(hP:C9 w (U HP (Z m) HL) m)(hC:F2 QH m AO)(K9:Z m<=1000)(JJ:∀c∈m,Z c.zD<=1000)(FO:∀c∈m,c.hn.size<=1000000/\∀p∈c.zD,p.1.an.size<=1000000)(hL:Cn AO AT)(HQ:∀x,AT x<=1000)(H4:Ea AO AT<=100000):
  Calls prog 123 #[U HP (Z m) HL] w λr w'=>Yq m AO AT w r w':=by
 obtain⟨i0,N4,MB,OH,NS⟩:=iR Tryz.yU;obtain⟨j0,LM,N2,K6,MN⟩:=iR Tryz.yC;have QQ:=Ab hP;have LE:=Ab FO;have M1:=Ab HQ;have H6:=Ab (MM HP HL m AO w AT hP hC K9 JJ FO hL HQ H4);obtain⟨z,H8⟩:∃z,w.heap.size=z:=⟨_,rfl⟩;have W:=Ab H8;clear hP hC JJ FO hL HQ H4 H8;go_enter func123,ntmps123;go_wp2_with fail
 refine H6.mono ?_;rintro _ w1 ⟨H,n,L,rfl,hM,IS,K4,Pl,k1⟩;have K3:=Ab hM;have K8:=Ab IS;have H0:=Ab K4;have HT:=Ab k1;have QR:lO (z<=H):=by have:=Aa W;show z<=H;omega
 clear H6 hM IS K4 Pl k1;go_wp2_with fail
 go_loopg [4,12] (Z m) (λgk pv i wr=>∃(k:Nat) (f:mc OL) (E:Option Addr) (y:Nat),pv=U E (Z f) y/\i=X J k/\k<=Z m/\gk=Z m-k/\lO (Hx (λi=>L (GA m i)) k f)/\lO (DR wr z (U E (Z f) y) f)/\lO (D7 wr H n L)/\lO (Ac [] w wr))
 case atStart=>exact⟨0,[],Y,0,rfl,rfl,by omega,rfl,⟨λj hj=>by simp at hj,λi hi=>by omega,by simp⟩,⟨ip _ _ _ _,λp P=>by simp at P,List.Pairwise.nil⟩,K3,HT⟩
 case round=>
  clear K3 HT;obtain⟨k,f,E,y,rfl,rfl,hk,K1,S,F,Q,N⟩:=hrel;have HG:=Ab K1;clear K1;by_cases Go:k<Z m
  .obtain⟨g,OB,P,I,EM,EY,B2,DT,CC,B9,he,FT,d0,d1,d2,d3⟩:=Fq (QQ.kept N) k Go;simp only[gM]at he;obtain⟨rfl,-,rfl⟩:=he;have FC:=(LE _ (gL Go)).1;rw[FT]at FC;have H7:=Xw FC;have NL:lO (GA m k=I):=by
    show _=_;unfold GA;rw[gS Go,FT];rfl
   (have Nq:L I<=1000:=by have:=Aa H0 I;have:=Aa M1 I;omega);have HF:=Ab (N.alloc (j2 #[X J P,O I,U EY (Z EM) B2,U DT (Z B9) CC] 189));have FF:=Q.zV ((me [] wr).alloc (j2 #[X J P,O I,U EY (Z EM) B2,U DT (Z B9) CC] 189)) (by simp);have HO:=Ab FF;have BS:=Ab (F.kept ((me [] wr).alloc (j2 #[X J P,O I,U EY (Z EM) B2,U DT (Z B9) CC] 189)));obtain⟨D,IJ,NX,hD⟩:=FF.at_;have HD:=Ab (hD I);obtain⟨l,HE⟩:∃l,L I=l:=⟨_,rfl⟩;rw[HE]at HD Nq;(have L0:lO (L (GA m k)=l):=by show _=_;rw[Aa NL];exact HE);clear FF NX hD FC FT HE F Q N;go_wp2_with (at_lookup;refine wpList_lookup_own_int _ rfl _ _ 269 rfl 9 3 J (Maps.string_keyed underlying9) underlying269 underlying3 (zeroValue3 _) H n D rfl IJ _ _ rfl H7 ?_;intro c KS NV;obtain rfl:c=(l:Int):=(by have h:=KS.symm.trans HD;simpa using h);clear KS NV)
   clear IJ HD H7 d0 d1 d2 d3;generalize wr.alloc (j2 #[X J P,O I,U EY (Z EM) B2,U DT (Z B9) CC] 189)=wa at HF HO BS⊢
   go_loopg [4] (l+2-Z f) (λPT pv wq=>∃(f:mc OL) (E:Option Addr) (y:Nat),pv=U E (Z f) y/\PT=l+2-Z f/\lO (Hx (λi=>L (GA m i)) k f)/\lO (DR wq z (U E (Z f) y) f)/\lO (D7 wq H n L)/\lO (Ac [] w wq))
   case atStart=>exact⟨f,E,y,rfl,rfl,S,BS,HO,HF⟩
   case round=>
    clear S BS HO HF;obtain⟨f,E,y,rfl,K2,S,F,Q,N⟩:=hrel;have NN:=Ab K2;clear K2;(have RV:z<=wr.heap.size:=by have:=N.size;have:=Aa W;omega);by_cases RI:Z f<=l
    ·(have Nj:(Z f:Int)<=(l:Int):=by omega);have v:=F.row;go_wp2_with (at_builtin;refine io _ rfl (.tmp 26) (.tmp 27) _ rfl z 221 i0 _ 1 24 underlying219 N4 MB OH NS rfl (by omega) (U E (Z f) y) (Z f) (f.flatMap λp=>[p.2]) rfl (gU v _) ⟨wr.heap.size,0,Y⟩ 1 1 [U Y 0 0] rfl rfl (iu (cs:=#[U Y 0 0]) (t:=221) (fr:=(0,0)) (iD wr _)) (by simp[Value.oneCell']) (by omega) (by unfold maxLen;omega) (by omega) (by simp;omega) (wr.heap.size+1) (by simp) ?_;intro G C u A1 A B0 FP)
     have CL:=Ab (S.more (by omega) (U Y 0 0));have A0:lO (DR u z (U (V ⟨G,0,Y⟩) (Z (f++[([],U Y 0 0)])) C) (f++[([],U Y 0 0)])):=by
      refine⟨?_,λp P=>?_,?_⟩
      .rw[ix];simp only[ib,gW,iv,iM,il,jh,iJ];exact A1
      .rcases ic.1 P with h|h
       .exact Zd (gU (F.each p h) _) (gU v _) A
       .simp only[gN]at h;subst h;exact ip _ _ _ _
      .rw[kY];refine⟨F.apart,by simp,λa ha b B q _ s=>?_⟩;simp only[gN]at B;subst B;simp[lX]at s
     have HR:Ac [] w u:=(N.alloc (j2 #[U Y 0 0] 221)).grown A (λq s=>ly (by have:=(v.lt q s).1;have:=Aa W;omega));have FA:lO (D7 u H n L):=by
      have EX:=Q.zV ((me [] wr).alloc (j2 #[U Y 0 0] 221)) (by simp);refine EX.zV (M:=(U E (Z f) y).ownBlock.toList) ((me _ _).grown A (λq s=>lx (by rw[s];simp))) (λT=>?_);obtain⟨D,⟨es,HX,B,_⟩,_⟩:=EX.at_;rcases(gU v (j2 #[U Y 0 0] 221)).2 with⟨e,_⟩|⟨g',c',HW,e,_,A2,_⟩
      .rw[e]at T;simp[lX]at T
      .rw[e]at T;simp[lX]at T;subst T;rw[A2]at B;cases B
     have EK:=Ab HR;clear A1 A B0 FP v HR
     go_roundg (l+2-(Z f+1))
     case measure=>have:=Aa NN;omega
     case rel=>exact⟨f++[([],U Y 0 0)],V ⟨G,0,Y⟩,C,by simp,by simp,CL,A0,FA,EK⟩
    ·(have Nj:¬(Z f:Int)<=(l:Int):=by omega);(have R:l<Z f:=by omega);(have RO:(0:Int)<=(l:Int):=by omega);(have RT:(l:Int)<(Z f:Int):=by omega);obtain⟨g,OB,Ax,BT,he,hv,H1⟩:=RQ F l R;simp only[gM]at he;obtain⟨rfl,-,rfl⟩:=he;have v:=F.each _ (gL R);rw[hv]at v;have HV:=Ab hv;have NY:f[l].1.length<=1000:=by
      rw[(Aa S).lists l R];have:=jn (λi=>L (GA m i)==l) (List.range k);rw[List.length_range]at this;omega
     obtain⟨o,HN⟩:∃o,f[l].1=o:=⟨_,rfl⟩;have Os:=Ab HN;rw[HN]at v NY H1 HV;clear HN hv;have BA:=F.row;have BS:=Ab (F.kept ((me [] wr).alloc (j2 #[X J k] 3)));have Nd:lO (∀u:l9,(wr.alloc (j2 #[X J k] 3)).grownBy u (U Ax (Z o) BT).ownBlock->lQ u z 221 1 (U (V ⟨g,0,Y⟩) (Z f) y) (Z f) (f.flatMap λp=>[p.2])/\u.frozen? ⟨g,l,Y⟩=false/\lP u ⟨g,l,Y⟩=V (U Ax (Z o) BT)):=by
      intro u A;have HH:lQ u z 221 1 (U (V ⟨g,0,Y⟩) (Z f) y) (Z f) (f.flatMap λp=>[p.2]):=je (gU BA (j2 #[X J k] 3)) A (ly (λe=>A7 BA v (by decide) g rfl e.symm));obtain⟨g',RB,HU,_,MY⟩:=AF HH (λc _=>rfl) l R;simp only[gM,gT,iL]at HU;obtain⟨⟨rfl,-,-⟩,-,-⟩:=HU;have d:=MY l R 0 (by omega);simp[Aa HV]at d;exact⟨HH,HH.frozenAt l,d⟩
     go_wp2_with (at_builtin;refine io _ rfl (.tmp 34) (.tmp 36) _ rfl z 3 j0 _ 1 8 underlying221 LM N2 K6 MN rfl (by omega) (U Ax (Z o) BT) (Z o) (o.flatMap CB) rfl (gU v _) ⟨wr.heap.size,0,Y⟩ 1 1 [X J k] rfl rfl (iu (cs:=#[X J k]) (t:=3) (fr:=(0,0)) (iD wr _)) (by simp[Value.oneCell']) (by omega) (by unfold maxLen;omega) (by omega) (by simp;omega) (wr.heap.size+1) (by simp) ?_;intro G C u A1 A B0 FP;have n9:=Aa Nd u A;have f9:=n9.2.1;have c9:=n9.2.2;clear n9)
     have hx:lQ u z 3 1 (U (V ⟨G,0,Y⟩) (Z (o++[k])) C) (Z (o++[k])) ((o++[k]).flatMap CB):=by
      rw[ix];simp only[ib,gW,iv,iM,il,jh,iJ];exact A1
     have A0:=Ab (DR.put (x:=(o++[k],U (V ⟨G,0,Y⟩) (Z (o++[k])) C)) R BS (by rw[Aa HV];exact A) hx (λq s=>by
      simp only[lX,gT]at s
      subst s
      rw[Aa HV]
      rcases B0 with h|h
      .exact lx h
      .exact ly (by simp;omega)) rfl)
     have CL:lO (Hx (λi=>L (GA m i)) (k+1) (f.set l (o++[k],U (V ⟨G,0,Y⟩) (Z (o++[k])) C))):=by
      have hf:=Aa L0;have h:=S.put (by simp only[hf];exact R) (U (V ⟨G,0,Y⟩) (Z (o++[k])) C);simp only[hf]at h;rw[Aa Os]at h;exact h
     have LC:=gU v (j2 #[X J k] 3);have HZ:∀q,(U Ax (Z o) BT).ownBlock=V q->q≠H:=by
      intro q s e;subst e;obtain⟨D,⟨es,HX,B,_⟩,_⟩:=Q.at_;rcases v.2 with⟨e,_⟩|⟨g',c',HW,e,_,A2,_⟩
      .rw[e]at s;simp[lX]at s
      .rw[e]at s;simp[lX]at s;subst s;rw[A2]at B;cases B
     have NB:g≠H:=by
      intro e;subst e;obtain⟨D,⟨es,HX,B,_⟩,_⟩:=Q.at_;rcases BA.2 with⟨e,_⟩|⟨g',c',HW,e,_,A2,_⟩
      .cases e
      .simp only[gM,gT,iL]at e;obtain⟨⟨rfl,-,-⟩,-,-⟩:=e;rw[A2]at B;cases B
     have FA:lO (D7 (u.setCell ⟨g,l,Y⟩ (U (V ⟨G,0,Y⟩) (Z o+1) C)) H n L):=by
      have EX:=Q.zV ((me [] wr).alloc (j2 #[X J k] 3)) (by simp);have M3:=EX.zV (M:=(U Ax (Z o) BT).ownBlock.toList) ((me _ _).grown A (λq s=>lx (by rw[s];simp))) (λT=>HZ H (by simpa using T) rfl);exact M3.zV (M:=[g]) ((me [g] u).setCell (p:=⟨g,l,Y⟩) (lx (by simp)) _) (by simp;exact λe=>NB e.symm)
     have EK:=Ab (((N.alloc (j2 #[X J k] 3)).grown A (λq s=>ly (by have:=(v.lt q s).1;have:=Aa W;omega))).setCell (p:=⟨g,l,Y⟩) (ly (by have:=(BA.lt g rfl).1;have:=Aa W;simp;omega)) (U (V ⟨G,0,Y⟩) (Z o+1) C));simp only[ib,gW,iv,iM]at A0 CL;generalize u.setCell ⟨g,l,Y⟩ (U (V ⟨G,0,Y⟩) (Z o+1) C)=wz at A0 FA EK⊢;clear A1 A B0 FP v BA f9 c9 hx LC HZ H1;go_wp2
     go_roundg (Z m-(k+1))
     case measure=>have:=Aa HG;omega
     case rel=>exact⟨k+1,f.set l (o++[k],U (V ⟨G,0,Y⟩) (Z o+1) C),V ⟨g,0,Y⟩,y,by simp,by go_num,by omega,rfl,CL,by rw[jm];exact A0,FA,EK⟩
  .have M2:lO (Hx (λi=>L (GA m i)) (Z m) f):=by
    (have e:k=Z m:=by omega);have h:=Aa S;rw[e]at h;exact h
   go_wp2;go_ret;exact⟨E,y,f,L,rfl,by rw[Aa W];exact F,M2,K8,H0,N⟩
structure GD(w w':l9):Prop where
 size:w.heap.size<=w'.heap.size
 at_:∀(q:Nat) (cs:Array lN) (t:TypeId) (fr:Nat×Nat),w.heap[q]?=V (j2 cs t fr)->t≠139->t≠104->t≠176->w'.heap[q]?=V (j2 cs t fr)
def GD.refl(w:l9):GD w w:=⟨ig _,λ_ _ _ _ h _ _ _=>h⟩
def GD.trans{a b c:l9}(h:GD a b)(k:GD b c):GD a c:=⟨iQ h.size k.size,λq e t i j f d g=>k.at_ q e t i (h.at_ q e t i j f d g) f d g⟩
def GD.of{M:mc Nat}{w w':l9}(k:Ac M w w')(g:∀q∈M,∃(c:Array lN) (t:TypeId) (d:Nat×Nat),w.heap[q]?=V (j2 c t d)/\(t=139\/t=104\/t=176)):GD w w':=by
 refine⟨k.size,λq c t d a i f l=>?_⟩;rw[k.block q (iK.1 a).1 (λe=>?_)]
 .exact a
 .obtain⟨m,n,o,b,j⟩:=g q e;rw[a]at b;simp only[gT,Obj.cells.injEq]at b;obtain⟨_,rfl,_⟩:=b;rcases j with h|h|h
  .exact i h
  .exact f h
  .exact l h
def GD.kept{w w':l9}(k:Ac [] w w'):GD w w':=GD.of k (λq a=>by simp at a)
def GD.row{w w':l9}(h:GD w w'){base e a n:Nat}{v:lN}{d:mc lN}(b:lQ w base e a v n d)(k:e≠139)(j:e≠104)(p:e≠176):lQ w' base e a v n d:=by
 refine⟨b.1,?_⟩;rcases b.2 with l|⟨g,c,f,rfl,o,r,s,i,q,m⟩
 .exact lx l
 .exact ly ⟨g,c,f,rfl,o,h.at_ _ _ _ _ r k j p,s,i,q,m⟩
def X6{w:l9}{b:Nat}{cs:mc lN}{t:TypeId}(h:AH w b cs t):∃(c:Array lN) (a:TypeId) (d:Nat×Nat),w.heap[b]?=V (j2 c a d)/\a=t:=⟨_,_,_,h,rfl⟩
def Yc{w:l9}{base e d n:Nat}{v:lN}{i:mc lN}(h:lQ w base e d v n i){q:Nat}(a:v.ownBlock=V q):∃(f:Array lN) (b:TypeId) (k:Nat×Nat),w.heap[q]?=V (j2 f b k)/\b=e:=by
 rcases h.2 with⟨rfl,_⟩|⟨g,c,l,rfl,_,j,_⟩
 .simp[lX]at a
 .simp only[lX,gT]at a;subst a;exact⟨_,_,_,j,rfl⟩
structure Z2(w0:l9)(cb:Nat)(clv:lN)(X:mc Nat)(s:mc Af)(w:l9):Prop where
 kept:Ac [] w0 w
 yd:w0.heap.size<=cb
 out:∃(sad:Option Addr) (scp:Nat) (fs:mc EN) (tad:Option Addr) (tcp:Nat) (xs:mc lN),AH w cb [clv,U sad (Z fs) scp,U tad (Z s) tcp] 139/\Iw w (U sad (Z fs) scp) fs/\Dc fs s/\
  lQ w w0.heap.size 176 4 (U tad (Z s) tcp) (Z s) xs/\(∀q,(U sad (Z fs) scp).ownBlock=V q->w0.heap.size<=q)/\∀q,(U tad (Z s) tcp).ownBlock=V q->q∉X
def BV(p:Nat×Ti):mc lN:=JV p.1 p.2
structure Wc(w:l9)(B:Nat)(kv:lN)(hs:mc (Nat×Gr Af))(sts:mc (Nat×Ti)):Prop where
 eq:sts.map (λp=>(p.1,p.2.f.f,p.2.ns.map EN.f))=hs.map λh=>(h.1,BN h.2.head,h.2.pos.map BN)
 each:∀p∈sts,Kg w p.2/\∀q,p.2.n.ownBlock=V q->B<=q/\kv.ownBlock≠V q
def Wc.kept{w w':l9}{B:Nat}{c:lN}{a:mc (Nat×Gr Af)}{d:mc (Nat×Ti)}(h:Wc w B c a d)(k:Ac [] w w'):Wc w' B c a d:=⟨h.eq,λp b=>⟨(h.each p b).1.kept k,(h.each p b).2⟩⟩
structure Ls(w0:l9)(cb:Nat)(clv:lN)(X Y:mc Nat)(s:mc Af)(hs:mc (Nat×Gr Af))(w:l9):Prop where
 kept:Ac [] w0 w
 yd:w0.heap.size<=cb
 out:∃(sad:Option Addr) (scp:Nat) (fs:mc EN) (tad:Option Addr) (tcp:Nat) (sts:mc (Nat×Ti)),AH w cb [clv,U sad (Z fs) scp,U tad (Z s) tcp] 139/\Iw w (U sad (Z fs) scp) fs/\Dc fs s/\
  lQ w w0.heap.size 176 4 (U tad (Z s) tcp) (Z s) (sts.flatMap BV)/\(∀q,(U sad (Z fs) scp).ownBlock=V q->w0.heap.size<=q/\q∉Y)/\(∀q,(U tad (Z s) tcp).ownBlock=V q->q∉X)/\Wc w w0.heap.size (U sad (Z fs) scp) hs sts
def Ls.cou{w0 w:l9}{a:Nat}{b:lN}{X j:mc Nat}{s:mc Af}{n:mc (Nat×Gr Af)}(h:Ls w0 a b X j s n w):Z2 w0 a b X s w:=by
 obtain⟨r,l,o,g,d,t,k,f,p,i,m,c,_⟩:=h.out;exact⟨h.kept,h.yd,r,l,o,g,d,_,k,f,p,i,λq e=>(m q e).1,c⟩
def Ls.grow{w0 w w':l9}{a:Nat}{d:lN}{X b:mc Nat}{s:mc Af}{c:mc (Nat×Gr Af)}(h:Ls w0 a d X b s c w)(k:Ac [] w w'):Ls w0 a d X b s c w':=by
 obtain⟨t,j,q,g,f,l,n,i,r,m,p,e,o⟩:=h.out;exact⟨h.kept.trans k,h.yd,t,j,q,g,f,l,n.kept k (by simp),i.kept k,r,Ad m k (by simp),p,e,o.kept k⟩
abbrev ft:A6->mc Af->UInt8->mc zA->mc zA:=λc s=>Im (Ak c) s
abbrev Hm(r:A6)(s:mc Af):mc Af:=QT (Im (Ak r) s) r (Ce r) (CY r) s
structure X7(pcs:mc Db)(J:mc (Nat×Gr Af)->mc Af->Prop)(num:Nat)(r:A6)(hs:mc (Nat×Gr Af))(s:mc Af):Prop where
 lt:num<Z pcs
 cl:Pr (pcs[num]'lt) r s
 nd:(Hm r s).Nodup
 new:∀f∈Hm r s,f∉s/\AJ f/\Z f.args<=1000
 len:Z (Hm r s)<=100000
 mid:∀IS:mc (Gr Af),IS.map Gr.head=Hm r s->(∀i∈IS,∃σ,(∀x∈Ak r,CH (Bu σ) (Eb σ) s x=true)/\i=CI r σ)->∀j,J (hs++(IS.take j).map (Prod.mk num)) (((Hm r s).take j).foldl A9 s)
def Sv{s:mc Af}{l:mc Af}{j:Nat}(a:j<Z l):(l.take (j+1)).foldl A9 s=A9 ((l.take j).foldl A9 s) l[j]:=by
 rw[gQ a,jo];rfl
def aY{l:mc Af}{s:mc Af}(t:Ef s)(v:∀f∈s,AJ f)(x:l.Nodup)(h:∀f∈l,f∉s/\AJ f):∀j (c:j<Z l),Ef ((l.take j).foldl A9 s)/\(∀f∈(l.take j).foldl A9 s,AJ f)/\(∀f,f∈(l.take j).foldl A9 s↔f∈s\/f∈l.take j)/\l[j]∉(l.take j).foldl A9 s:=by
 have p:∀j,j<=Z l->Ef ((l.take j).foldl A9 s)/\(∀f∈(l.take j).foldl A9 s,AJ f)/\(∀f,f∈(l.take j).foldl A9 s↔f∈s\/f∈l.take j):=by
  intro j
  induction j with
  |zero=>intro _;exact⟨t,v,λf=>by simp⟩
  |succ j ih=>
   intro c;obtain⟨o,k,d⟩:=ih (by omega);(have g:j<Z l:=by omega);have u:=(h _ (gL g)).2;obtain⟨a,b,m⟩:=Dg u o k;rw[Sv g];refine⟨a,b,λf=>?_⟩;rw[m,d,gQ g,ic,gN,or_assoc]
 intro j c;obtain⟨o,k,d⟩:=p j (by omega);refine⟨o,k,d,λq=>?_⟩;rcases(d _).1 q with n|n
 .exact(h _ (gL c)).1 n
 .obtain⟨i,w,e⟩:=iF n;rw[iH]at w;rw[kK]at e;have r:=jI.1 x i j (by omega) c (by omega);exact r e
def cj(f:Af):Z (BN f).zC=Z f.args:=by unfold BN;simp
theorem aP(HU:mc (Nat×Gr Af)->mc Af->Prop)(w0:l9)(u:Nat)(B0:Option Addr)(BT:Nat)(AT:mc Db)(b2:Option Addr)(X3:Nat)(ns:mc Nat)(ds:mc A6)(s:mc Af)(hs:mc (Nat×Gr Af))(w:l9)(hP:C9 w0 (U B0 (Z AT) BT) AT)(c1:Z AT<=1000)(gx:Z ns<=1000)
  (hY:lQ w 0 3 1 (U b2 (Z ns) X3) (Z ns) (ns.flatMap CB)) (hC:Ls w0 u (U B0 (Z AT) BT) [] [] s hs w) (hJ:HU hs s) (al:∀hs s,HU hs s->Ef s/\(∀f∈s,AJ f)/\Z s<=9000)
  (W2:∀hs s,HU hs s->F2 (λy r=>X7 AT HU y r hs s) ns ds):
  Calls prog 124 #[kt (V ⟨u,0,Y⟩),U b2 (Z ns) X3] w λr w'=>∃s' bb,s'=(Fv (Ep ft) ds s).1/\r=.returned (.bool (decide (Z s<Z s')))/\HU bb s'/\Ls w0 u (U B0 (Z AT) BT) [] [] s' bb w'/\GD w w':=by
 obtain⟨i0,eA,dc,e6,em⟩:=iR Tryz.zq;have cR:=Ab hP;have dT:=Ab hY;have ZV:=Ab hC;have HJ:=Ab hJ;have a8:=Ab al;have fk:=Ab W2;have XS:lO (Z ns=Z ds):=(W2 hs s hJ).lenX;obtain⟨f5,f3,gb,gf,f1,gy,a2,_⟩:=hC.out;have c2:=a2.cell 2;simp at c2;obtain⟨S0,ST⟩:∃S0,Z s=S0:=⟨_,rfl⟩;have c3:=Ab ST;rw[ST]at c2;clear hP hY hC hJ al W2 a2 ST;go_enter func124,ntmps124;go_wp2_with fail
 clear c2
 go_loopg [17] (Z ns) (λgk i wr=>∃(k:Nat) (s1:mc Af) (B2:mc (Nat×Gr Af)),i=X J k/\k<=Z ns/\gk=Z ns-k/\lO (s1=((ds.take k).foldl (Jh (Ep ft)) (s,false)).1)/\lO (HU B2 s1)/\lO (Ls w0 u (U B0 (Z AT) BT) [] [] s1 B2 wr)/\lO (GD w wr))
 case atStart=>exact⟨0,s,hs,rfl,by omega,rfl,rfl,HJ,ZV,GD.refl _⟩
 case round=>
  clear ZV HJ;obtain⟨k,s1,B2,rfl,hk,cr,X1,VR,HH,M2⟩:=hrel;have HG:=Ab cr;clear cr;by_cases af:k<Z ns
  ·(have b0:k<Z ds:=by have:=Aa XS;omega);have HQ:=(fk B2 s1 VR).at k af b0;obtain⟨yg,gl,he,cy⟩:=Yd (M2.row dT (by decide) (by decide) (by decide)) k af;simp only[gM]at he;obtain⟨rfl,-,rfl⟩:=he;obtain⟨y,cz⟩:∃y,ns[k]=y:=⟨_,rfl⟩;rw[cz]at cy HQ;obtain⟨r,S⟩:∃r,ds[k]=r:=⟨_,rfl⟩;rw[S]at HQ;have EU:lO (((ds.take (k+1)).foldl (Jh (Ep ft)) (s,false)).1=(Hm r s1).foldl A9 s1):=by
    show _=_;rw[gQ b0,jo,S];have h:=Aa X1;rw[iA,List.foldl_nil];generalize(ds.take k).foldl (Jh (Ep ft)) (s,false)=acc at h⊢;rw[h];rfl
   clear cz S;obtain⟨EY,EK,N,W,T,xs,hb,HR,HV,H4,H7,hX,K6⟩:=(Aa HH).out;have b7:=Ab (Tg u y B0 BT AT EY EK N (U W (Z s1) T) r s1 wr HQ.lt c1 hb (by exact(Aa cR).kept (Aa HH).kept) HR HV HQ.cl HQ.len);have HP:=Ab HQ;(have gj:(0:Int)<=(k:Int):=by omega);(have f4:(k:Int)<(Z ns:Int):=by omega);have a9:lO (∀w2 nv nn X2 (z:mc Ti),Ac [] wr w2->lQ w2 wr.heap.size 176 4 nv nn X2->(∀m∈z,Kg w2 m/\cA wr.heap.size r s1 m)->Ls w0 u (U B0 (Z AT) BT) nv.ownBlock.toList (z.filterMap λm=>m.n.ownBlock) s1 B2 w2):=λw2 nv nn X2 z k2 hn A0=>⟨(Aa HH).kept.trans k2,(Aa HH).yd,EY,EK,N,W,T,xs,hb.kept k2 (by simp),HR.kept k2,HV,Ad H4 k2 (by simp),λq d=>⟨(H7 q d).1,λR=>by
    obtain⟨m,QR,e⟩:=jy.1 R
    have M:=(HR.row.lt q d).2
    have L:=(A0 m QR).2.1 q e
    omega⟩,λq d R=>by
    have M:=(H4.lt q d).2
    have L:=(hn.lt q (by simpa using R)).1
    omega,K6.kept k2⟩
   clear HQ hb HR HV H4 H7 hX K6;(go_wp2_with fail);refine b7.mono ?_;rintro _ w2 ⟨b5,Nj,z,rfl,M3,Os,LC,k2⟩;have aT:=Ab (M2.trans (GD.kept k2));have f0:=Ab M3;have K2:=Ab (Am Os (ik _));(have H3:lO (∀m∈z,Kg w2 m):=λm A0=>(LC m A0).1);(have e7:lO (∀m∈z,∀q,m.n.ownBlock=V q->w0.heap.size<=q):=λm A0 q d=>iQ HH.kept.size ((LC m A0).2.1 q d));obtain⟨IS,U0,b4,bl⟩:=Sz z (Hm r s1) M3 (λf hf=>(HP.new f hf).2.1) (λm A0=>(LC m A0).2);have QQ:=Ab U0;have es:=Ab bl;have X0:=Ab (HP.mid IS U0 b4);clear U0 b4 bl;(have ga:Z z=Z (Hm r s1):=by have:=congrArg List.length M3;simpa using this);have a6:=Ab (a9 w2 _ _ _ z k2 Os LC);have f7:=HP.len;clear b7 M3 Os LC HH M2 a9 cy k2;go_wp2_with fail
   go_loopg [25] (Z z) (λfp i wq=>∃(j:Nat),i=X J j/\j<=Z z/\fp=Z z-j/\lO (Ls w0 u (U B0 (Z AT) BT) (U b5 (Z z) Nj).ownBlock.toList (z.filterMap λm=>m.n.ownBlock) (((Hm r s1).take j).foldl A9 s1) (B2++(IS.take j).map (Prod.mk y)) wq)/\lO (lQ wq 0 176 4 (U b5 (Z z) Nj) (Z z) (z.flatMap (JV y)))/\lO (∀m∈z,Kg wq m)/\lO (GD w wq))
   case atStart=>exact⟨0,rfl,by omega,rfl,(by simpa using a6),K2,H3,aT⟩
   case round=>
    clear a6 K2 H3 aT;obtain⟨j,rfl,hj,av,HI,K2,H3,bn⟩:=hrel;have ek:=Ab av;clear av;by_cases FB:j<Z z
    ·(have Mo:j<Z (Hm r s1):=by omega);obtain⟨g,gw,he,_,KK⟩:=AF K2 (λc _=>rfl) j FB;simp only[gM]at he;obtain⟨rfl,-,rfl⟩:=he;have e0:=KK j FB 0 (by omega);have e1:=KK j FB 1 (by omega);have e2:=KK j FB 2 (by omega);have e3:=KK j FB 3 (by omega);obtain⟨M0,UO,Ix,Q,P,hn⟩:=H3 _ (gL FB);(have K8:∀q,z[j].n.ownBlock=V q->w0.heap.size<=q/\q∈z.filterMap λm=>m.n.ownBlock:=λq d=>⟨e7 _ (gL FB) q d,jy.2 ⟨_,gL FB,d⟩⟩);(have an:j<Z IS:=by have h:=congrArg List.length QQ;rw[ie]at h;omega);(have b6:lO ((IS.take (j+1)).map (Prod.mk y)=(IS.take j).map (Prod.mk y)++[(y,IS[j])]):=by show _=_;rw[gQ an,iG];rfl);have K4:(z[j].f.f,z[j].ns.map EN.f)=(BN IS[j].head,IS[j].pos.map BN):=by
      have h:=congrArg (λl=>l[j]?) es;simp only[jf,gS FB,gS an,jC,gT]at h;exact h
     obtain⟨IJ,a7⟩:∃IJ,IS[j]=IJ:=⟨_,rfl⟩;rw[a7]at b6 K4;clear a7;have LE:z[j].f.f=BN (Hm r s1)[j]:=by
      have h:=congrArg (λl=>l[j]?) f0;simp only[jf,gS FB,gS Mo,jC,gT]at h;exact h
     obtain⟨⟨⟨⟨B,BS⟩,fv⟩,nv,Wa⟩,A0⟩:∃m,z[j]=m:=⟨_,rfl⟩;rw[A0]at e0 e1 e2 e3 M0 UO hn LE Ix K8 K4;have er:=Ab A0;obtain⟨D,C,co⟩:=Al M0;simp only at co hn UO LE Ix K8 K4;subst co hn;obtain⟨I,W0⟩:∃I,Z Wa=I:=⟨_,rfl⟩;rw[W0]at e0 e1 e2 e3 Ix K8;have d5:=Ab W0;have gs:=Ab Ix;have a4:=Ab K8;have et:=Ab K4;clear W0 Ix K8 K4;obtain⟨A,TL⟩:∃A,Z BS=A:=⟨_,rfl⟩;simp[JV,TL]at e0 e1 e2 e3;obtain⟨F,hF⟩:∃F,(Hm r s1)[j]=F:=⟨_,rfl⟩;rw[hF]at LE;have cv:=HP.new F (by rw[<-hF];exact gL Mo);have VS:=Aa a8 B2 s1 VR;have NM:=aY VS.1 VS.2.1 HP.nd (λf hf=>⟨(HP.new f hf).1,(HP.new f hf).2.1⟩) j Mo;rw[hF]at NM;(have a0:lO (((Hm r s1).take (j+1)).foldl A9 s1=A9 (((Hm r s1).take j).foldl A9 s1) F):=by show _=_;rw[Sv Mo,hF]);have MN:=Aa a8 _ _ (X0 j);obtain⟨SJ,YP⟩:∃SJ,((Hm r s1).take j).foldl A9 s1=SJ:=⟨_,rfl⟩;rw[YP]at HI NM a0 MN;have ao:=Ab NM;have H9:=Ab LE;have eg:=Ab M0;have TS:=Ab cv;have cL:=Ab TL;obtain⟨EY,EK,N,W,T,xs,hb,HR,HV,H4,H7,hX,K6⟩:=(Aa HI).out;have db:=HV.len;have HB:=Ab hb;have TH:=Ab HR;have RO:=Ab HV;have ap:=Ab H4;have W3:=Ab H7;have HX:=Ab hX;have H0:=Ab K6;(have g0:(0:Int)<=(j:Int):=by omega);(have f2:(j:Int)<(Z z:Int):=by omega);obtain⟨G,bp⟩:∃G,Z SJ=G:=⟨_,rfl⟩;have NX:=Ab bp;(have d7:lO (G<=9000):=by show G<=9000;have:=MN.2.2;omega);(have d4:lO (Z N<=9000):=by show Z N<=9000;have:=MN.2.2;omega);have NN:=Ab (mf wr [O B,U D A C,X J y,U Q I P] 176);have Nx:=Ab ((me [] wr).alloc (j2 [O B,U D A C,X J y,U Q I P].toArray 176));clear hb HR HV H4 H7 hX K6 NM cv VS hF LE M0 A0 KK YP MN db TL UO bp;refine ma (λK1 DT=>?_);go_wp2;refine DT _ _ ?_;clear DT K1;refine ma (λK1 DT=>?_);go_wp2;refine DT _ _ ?_;clear DT K1;refine ma (λK5 bx=>?_);refine wp_block ?_;refine ma (λK1 DT=>?_);go_wp2;refine DT _ _ ?_;clear DT K1 e0 e1 e2 e3;change Code.wp _ _ _ _ (wr.alloc (j2 [O B,U D A C,X J y,U Q I P].toArray 176));generalize hw3:wr.alloc (j2 [O B,U D A C,X J y,U Q I P].toArray 176)=w3 at NN Nx⊢;clear hw3;obtain⟨E,W1⟩:∃E,wr.heap.size=E:=⟨_,rfl⟩;have d0:=Ab W1;rw[W1]at NN⊢;clear W1;have VL:lO (∀o,AH o E [O B,U D A C,X J y,U Q I P] 176->lP o ⟨E,0,Y⟩=V (O B)/\lP o ⟨E,1,Y⟩=V (U D A C)/\lP o ⟨E,2,Y⟩=V (X J y)/\lP o ⟨E,3,Y⟩=V (U Q I P)):=by
      intro o hb;have h0:=hb.cell 0;have M:=hb.cell 1;have L:=hb.cell 2;have h3:=hb.cell 3;simp at h0 M L h3;exact⟨h0,M,L,h3⟩
     have A2:=Ab (VL w3.drew NN);refine ma (λK1 DT=>?_);refine Cz 6 (λo=>lP o ⟨E,0,Y⟩=V (O B)/\lP o ⟨E,1,Y⟩=V (U D A C)/\lP o ⟨E,2,Y⟩=V (X J y)/\lP o ⟨E,3,Y⟩=V (U Q I P)) (by kernel_rfl) ?_;refine Cx.tkH (i:=0) (v:=kt (V ⟨u,0,Y⟩)) rfl (by kernel_rfl) (λ_ _ _ h=>h) A2 (by rfl) ?_ ?_
     ·(rintro o ⟨z0,z1,z2,z3⟩;go_simp)
     simp only[lY,gI,gJ,gK];refine Cx.tkH (i:=1) (v:=kt (V ⟨u,0,Y⟩)) rfl (by kernel_rfl) (λ_ _ _ h=>h) A2 (by rfl) ?_ ?_
     ·(rintro o ⟨z0,z1,z2,z3⟩;go_simp)
     simp only[lY,gI,gJ,gK];refine Cx.tkH (i:=2) (v:=kt (V ⟨u,1,Y⟩)) rfl (by kernel_rfl) (λ_ _ _ h=>h) A2 (by rfl) ?_ ?_
     ·(rintro o ⟨z0,z1,z2,z3⟩;go_simp)
     simp only[lY,gI,gJ,gK];refine Cx.tkH (i:=3) (v:=kt (V ⟨E,0,Y⟩)) rfl (by kernel_rfl) (λ_ _ _ h=>h) A2 (by rfl) ?_ ?_
     ·(rintro o ⟨z0,z1,z2,z3⟩;go_simp)
     simp only[lY,gI,gJ,gK];refine Cx.tkH (i:=4) (v:=.agg #[O B,U D A C]) rfl (by kernel_rfl) (λ_ _ _ h=>h) A2 (by rfl) ?_ ?_
     ·(rintro o ⟨z0,z1,z2,z3⟩;go_simp)
     simp only[lY,gI,gJ,gK];refine Cx.one (i:=5) (by kernel_rfl) rfl (λEX hK=>?_)
     go_simp
     have HM:Ac [] wr w3.drew:=Nx.drew;have N2:=Ab (Qy u 1 [U B0 (Z AT) BT,U EY (Z N) EK,U W (Z SJ) T] 139 EY EK N ⟨⟨B,BS⟩,U D (Z BS) C⟩ w3.drew (HB.kept HM (by simp)) rfl (by decide) (by decide) (TH.kept HM) (eg.kept HM) (by show Z BS<=1000;have h:=congrArg (λp=>Z p.zC) H9;simp only[cj]at h;have:=TS.2.2;omega) (by have:=Aa d4;omega) (RO.mono _));simp only[AW]at N2;rw[Aa cL]at N2;refine N2.mono ?_;rintro _ H ⟨rfl,hA⟩;have HW:AH w3.drew E [O B,U D A C,X J y,U Q I P] 176:=NN;have NL:=HB.kept HM (by simp);have SB:=TH.kept HM;have a3:E∉u::(U EY (Z N) EK).ownBlock.toList:=by
      intro R;rcases gP.1 R with h|h
      .rw[h]at HW;unfold AH at HW NL;rw[NL]at HW;simp at HW
      .exact Ar SB.row HW (by decide) (by simpa using h)
     have Op:=HW.kept hA.kept a3;refine hK.out _ _ (λ_=>VL _ Op) ?_;clear hK EX;refine Cx.done (by kernel_rfl) ?_ _
     try simp only[lY,gI,gJ,gK]
     refine DT _ _ ?_;clear DT K1 A2 N2;obtain⟨p,H2,HZ,hcut,K3,cf,RB⟩:=hA.out;simp only[gK,gJ]at K3;have T0:Gg N (BN F) p:=by
      have h:=hcut;simp only at h;rw[Aa H9]at h;exact h
     have PT:Ev N ⟨B,BS⟩ p=false:=by
      rw[Aa H9,(Aa RO).zn (Aa TS).2.1 T0];cases hh:D9 SJ F with
      |false=>rfl
      |true=>exact absurd ((BY _ _).1 hh) ao.2.2.2
     have d8:lO (Dc (LA N ⟨⟨B,BS⟩,U D A C⟩ p) (A9 SJ F)):=by
      have h:=RO.zx (x:=⟨⟨B,BS⟩,U D A C⟩) H9 TS.2.1 T0 (by rw[<-Aa H9];exact PT);unfold LA;simp only[PT,gO,if_false];exact h
     (have OB:lO (Z (A9 SJ F)=G+1):=by show _=_;rw[(Kn SJ F).2 (Aa ao).2.2.2,Aa NX]);have Jx:=Ab cf;have cx:lO (∀q,(U H2 (Z (LA N ⟨⟨B,BS⟩,U D A C⟩ p)) HZ).ownBlock=V q->w0.heap.size<=q/\q∉z.filterMap λm=>m.n.ownBlock):=by
      intro q d;rcases RB q d with h|h
      .exact W3 q h
      .have M:w3.heap.size<=q:=h;have L:=HI.kept.size;have h3:=Nx.size;refine⟨by omega,λR=>?_⟩;obtain⟨m,QR,e⟩:=jy.1 R;have h4:=((H3 m QR).nds.row.lt q e).2;omega
     have eb:lO (∀p'∈xs,∀q,p'.2.n.ownBlock=V q->(U H2 (Z (LA N ⟨⟨B,BS⟩,U D A C⟩ p)) HZ).ownBlock≠V q):=by
      intro p' HO q d he;rcases RB q he with h|h
      .exact((H0.each p' HO).2 q d).2 h
      .have M:w3.heap.size<=q:=h;have h4:=((H0.each p' HO).1.nds.row.lt q d).2;have h3:=Nx.size;omega
     have NB:Ac (u::(U EY (Z N) EK).ownBlock.toList) wr H:=((HM.mono (by simp)).trans hA.kept);have c4:lO (GD w H):=bn.trans ((GD.kept HM).trans (GD.of hA.kept (λq d=>by
      rcases gP.1 d with rfl|d
      .obtain⟨a,b,c,M,L⟩:=X6 NL
       exact⟨a,b,c,M,lx L⟩
      .obtain⟨a,b,c,M,L⟩:=Yc SB.row (q:=q) (by simpa using d)
       exact⟨a,b,c,M,ly (lx L)⟩)))
     have ch:lO (Ac [] w0 H):=HI.kept.trans' NB (λq d=>ly (by
      rcases gP.1 d with rfl|d
      .exact HI.yd
      .exact(W3 q (by simpa using d)).1))
     have KS:∀{b e sz n:Nat} {v:lN} {ys:mc lN},lQ wr b e sz v n ys->e≠139->e≠104->lQ H b e sz v n ys:=fun{b e sz n v ys} S M L=>Ai S NB (λq d R=>by
      rcases gP.1 R with rfl|R
      .exact Ar S HB M d
      .exact A7 S TH.row L q d (by simpa using R))
     have RI:=KS ap (by decide) (by decide);rw[Aa NX]at RI;have HS:=Ab RI;have ad:=Ab (KS K2 (by decide) (by decide));have TV:∀{b sz n:Nat} {v:lN} {ys:mc lN},lQ wr b 104 sz v n ys->(∀q,v.ownBlock=V q->(U EY (Z N) EK).ownBlock≠V q)->lQ H b 104 sz v n ys:=fun{b sz n v ys} S L=>Ai S NB (λq d R=>by
      rcases gP.1 R with rfl|R
      .exact Ar S HB (by decide) d
      .exact L q d (by simpa using R))
     (have ab:lO (∀m∈z,Kg H m):=λm A0=>(H3 m A0).map (λp hp=>KS (v:=p.tv) hp (by decide) (by decide)) (λS=>TV S (λq d he=>(W3 q he).2 (jy.2 ⟨m,A0,d⟩))));(have e8:lO (∀p'∈xs,Kg H p'.2):=λp' HO=>(H0.each p' HO).1.map (λp hp=>KS (v:=p.tv) hp (by decide) (by decide)) (λS=>TV S (λq d=>((H0.each p' HO).2 q d).2)));have c6:lO (Kg H ⟨⟨⟨B,BS⟩,U D A C⟩,U Q I P,Wa⟩):=by
      have h:=Aa ab _ (gL FB);rw[Aa er,Aa d5,Aa cL]at h;exact h
     have bv:=Ab Op;have Pl:lO (∀q,(U W G T).ownBlock=V q->q<E/\q∉(U (V ⟨g,0,Y⟩) (Z z) Nj).ownBlock.toList):=λq d=>by
      have M:=Aa ap;have L:=Aa HX;rw[Aa NX]at M L;have h3:=(M.lt q d).2;have h4:=Aa d0;exact⟨by omega,L q d⟩
     rw[Aa NX]at K3;obtain⟨FL,TX⟩:∃FL,Z (LA N ⟨⟨B,BS⟩,U D A C⟩ p)=FL:=⟨_,rfl⟩;have d1:=Ab TX;have SP:lO (AH H u [U B0 (Z AT) BT,U H2 FL HZ,U W G T] 139):=by
      rw[TX]at K3;exact K3
     clear hA HW NL SB a3 Op HM hcut T0 K3 cf RB PT NB RI TX KS TV;have K9:lO (∀o,AH o E [O B,U D A C,X J y,U Q I P] 176->AH o u [U B0 (Z AT) BT,U H2 FL HZ,U W G T] 139->lP o ⟨u,2,Y⟩=V (U W G T)/\lP o ⟨E,0,Y⟩=V (O B)/\lP o ⟨E,1,Y⟩=V (U D A C)/\lP o ⟨E,2,Y⟩=V (X J y)/\lP o ⟨E,3,Y⟩=V (U Q I P)):=by
      intro o hb hc;have h0:=hc.cell 2;simp at h0;exact⟨h0,VL o hb⟩
     have A2:=Ab (K9 H.drew bv SP);refine Cz 10 (λo=>lP o ⟨u,2,Y⟩=V (U W G T)/\lP o ⟨E,0,Y⟩=V (O B)/\lP o ⟨E,1,Y⟩=V (U D A C)/\lP o ⟨E,2,Y⟩=V (X J y)/\lP o ⟨E,3,Y⟩=V (U Q I P)) (by kernel_rfl) ?_;refine Cx.tk (i:=0) (v:=kt (V ⟨u,0,Y⟩)) rfl (by kernel_rfl) (λ_ _ _ h=>h) A2 (by rfl) ?_ ?_
     ·(rintro o ⟨z0,z1,z2,z3,z4⟩;go_simp)
     simp only[lY,gI,gJ,gK];refine Cx.tk (i:=1) (v:=kt (V ⟨u,0,Y⟩)) rfl (by kernel_rfl) (λ_ _ _ h=>h) A2 (by rfl) ?_ ?_
     ·(rintro o ⟨z0,z1,z2,z3,z4⟩;go_simp)
     simp only[lY,gI,gJ,gK];refine Cx.tk (i:=2) (v:=kt (V ⟨u,0,Y⟩)) rfl (by kernel_rfl) (λ_ _ _ h=>h) A2 (by rfl) ?_ ?_
     ·(rintro o ⟨z0,z1,z2,z3,z4⟩;go_simp)
     simp only[lY,gI,gJ,gK];refine Cx.tk (i:=3) (v:=kt (V ⟨u,2,Y⟩)) rfl (by kernel_rfl) (λ_ _ _ h=>h) A2 (by rfl) ?_ ?_
     ·(rintro o ⟨z0,z1,z2,z3,z4⟩;go_simp)
     simp only[lY,gI,gJ,gK];refine Cx.tk (i:=4) (v:=U W G T) rfl (by kernel_rfl) (λ_ _ _ h=>h) A2 (by rfl) ?_ ?_
     ·(rintro o ⟨z0,z1,z2,z3,z4⟩;go_simp)
     simp only[lY,gI,gJ,gK];refine Cx.tk (i:=5) (v:=.agg #[O B,U D A C,X J y,U Q I P]) rfl (by kernel_rfl) (λ_ _ _ h=>h) A2 (by rfl) ?_ ?_
     ·(rintro o ⟨z0,z1,z2,z3,z4⟩;go_simp)
     simp only[lY,gI,gJ,gK];refine Cx.one (i:=6) (by kernel_rfl) rfl (λEX hK=>?_)
     go_simp
     have WB:AH (H.drew.alloc (j2 #[O B,U D A C,X J y,U Q I P] 176)) E [O B,U D A C,X J y,U Q I P] 176:=AH.alloc (w:=H.drew) bv _;have RT:AH (H.drew.alloc (j2 #[O B,U D A C,X J y,U Q I P] 176)) u [U B0 (Z AT) BT,U H2 FL HZ,U W G T] 139:=AH.alloc (w:=H.drew) SP _;refine hK.out _ _ (λ_=>K9 _ WB RT) ?_;clear hK EX
     try simp only[lY,gI,gJ,gK]
     have OH:lQ H.drew w0.heap.size 176 4 (U W G T) G (xs.flatMap BV):=HS;have df:w0.heap.size<=H.heap.size:=ch.size;have ge:=Aa d7;refine Cx.one (i:=7) (by kernel_rfl) rfl (λEX hK=>?_);refine lc _ (by rfl) _ _ _ (by rfl) w0.heap.size 176 i0 _ 4 72 underlying137 eA dc e6 em rfl (by omega) (U W G T) G (xs.flatMap BV) (by rfl) (gU OH _)
      ⟨H.drew.heap.size,0,Y⟩ 1 1 [O B,U D A C,X J y,U Q I P] (by rfl) (by rfl) (iu (cs:=#[O B,U D A C,X J y,U Q I P]) (t:=176) (fr:=(0,0)) (iD H.drew _)) (by simp[Value.oneCell'])
      (by omega) (by unfold maxLen;omega) (by omega) (by simp;exact Nat.le_succ_of_le df) (H.heap.size+1) (by simp) ?_
     intro gg HK u3 RV M6 bd eB;have LM:=WB.grown M6 (λe=>by have:=(Pl E e).1;omega);have FC:=RT.grown M6 (Ar OH SP (by decide));refine hK.out _ _ (λ_=>K9 _ LM FC) ?_;clear hK EX
     try simp only[lY,gI,gJ,gK]
     refine Cx.one (i:=8) (by kernel_rfl) rfl (λEX hK=>?_)
     go_simp
     refine hK.out _ _ (λ_=>K9 _ LM FC) ?_;clear hK EX
     try simp only[lY,gI,gJ,gK]
     refine Cx.one (i:=9) (by kernel_rfl) rfl (λEX hK=>?_)
     go_simp
     refine hK.out _ _ (λ_=>K9 _ LM FC) ?_;clear hK EX
     try simp only[lY,gI,gJ,gK]
     have aa:=FC.cell 2;have eT:=FC.frozen 2;simp at aa;refine Cx.one (i:=10) (by kernel_rfl) rfl (λEX hK=>?_)
     go_simp
     refine hK.out _ _ (λh=>absurd rfl h) ?_;clear hK EX;refine Cx.done (by kernel_rfl) ?_ _
     try simp only[lY,gI,gJ,gK]
     have NV:Ac ((U W G T).ownBlock.toList) H u3:=(((me _ H).drew).alloc (j2 #[O B,U D A C,X J y,U Q I P] 176)).grown M6 (λq d=>lx (by rw[d];simp));have RE:Ac [u] u3 (u3.setCell ⟨u,2,Y⟩ (U (V ⟨gg,0,Y⟩) (G+1) HK)):=(me [u] u3).setCell (p:=⟨u,2,Y⟩) (lx (by simp)) _;have H1:∀{b e sz n:Nat} {v:lN} {ys:mc lN},lQ H b e sz v n ys->e≠139->(∀q,v.ownBlock=V q->(U W G T).ownBlock≠V q)->lQ (u3.setCell ⟨u,2,Y⟩ (U (V ⟨gg,0,Y⟩) (G+1) HK)) b e sz v n ys:=fun{b e sz n v ys} S M L=>by
      have h3:=Ai S NV (λq d R=>L q d (by simpa using R));exact Ag h3 (Ar h3 FC M) _
     (have MB:∀m,Kg H m->Kg (u3.setCell ⟨u,2,Y⟩ (U (V ⟨gg,0,Y⟩) (G+1) HK)) m:=λm h=>h.map (λp hp=>H1 (v:=p.tv) hp (by decide) (λq d=>A7 (v1:=p.tv) hp HS (by decide) q d)) (λS=>H1 S (by decide) (λq d=>A7 S HS (by decide) q d)));have bt:lO (Ls w0 u (U B0 (Z AT) BT) (U (V ⟨g,0,Y⟩) (Z z) Nj).ownBlock.toList (z.filterMap λm=>m.n.ownBlock) (((Hm r s1).take (j+1)).foldl A9 s1) (B2++(IS.take (j+1)).map (Prod.mk y)) (u3.setCell ⟨u,2,Y⟩ (U (V ⟨gg,0,Y⟩) (G+1) HK))):=by
      rw[Aa a0,Aa b6,<-iT];refine⟨(ch.trans' NV (λq d=>ly (HS.lt q (by simpa using d)).1)).trans' RE (λq d=>ly (by simp only[gN]at d;rw[d];exact HI.yd)),HI.yd,H2,HZ,LA N ⟨⟨B,BS⟩,U D A C⟩ p,V ⟨gg,0,Y⟩,HK,xs++[(y,⟨⟨⟨B,BS⟩,U D A C⟩,U Q I P,Wa⟩)],?_,⟨?_,λq d=>⟨?_,?_⟩⟩,d8,?_,cx,?_,?_,λp' HO=>?_⟩
      .rw[Aa OB,Aa d1];exact FC.set 2 _
      .exact H1 Jx.row (by decide) (λq d=>A7 Jx.row HS (by decide) q d)
      .exact H1 (v:=q.tv) (Jx.each q d).1 (by decide) (λq' ew=>A7 (v1:=q.tv) (Jx.each q d).1 HS (by decide) q' ew)
      .exact(Jx.each q d).2
      .rw[Aa OB,ix];exact Ag RV (Ar RV FC (by decide)) _
      .rw[Aa OB];intro q d;simp only[lX,gT]at d;subst d;rcases bd with h|h
       .exact(Pl gg h).2
       .intro R;have M:=(ad.lt gg (by simpa using R)).2;omega
      .have h:=Aa et;simp only[iE]at h;rw[iG,iG,(Aa H0).eq];simp only[ii,jM,h.1,h.2]
      .rcases ic.1 HO with h|h
       .exact⟨MB _ (e8 p' h),λq d=>⟨((H0.each p' h).2 q d).1,eb p' h q d⟩⟩
       .simp only[gN]at h;subst h;exact⟨MB _ c6,λq d=>⟨(a4 q d).1,λhe=>(cx q he).2 (a4 q d).2⟩⟩
     have ba:=Ab (H1 ad (by decide) (λq d h=>(Pl q h).2 (by rw[d];simp)));(have a5:lO (∀m∈z,Kg (u3.setCell ⟨u,2,Y⟩ (U (V ⟨gg,0,Y⟩) (G+1) HK)) m):=λm A0=>MB m (ab m A0));have cp:lO (GD w (u3.setCell ⟨u,2,Y⟩ (U (V ⟨gg,0,Y⟩) (G+1) HK))):=(c4.trans (GD.of NV (λq d=>by
      obtain⟨a,b,c,M,L⟩:=Yc HS (q:=q) (by simpa using d)
      exact⟨a,b,c,M,ly (ly L)⟩))).trans (GD.of RE (λq d=>by
      simp only[gN]at d
      rw[d]
      obtain⟨a,b,c,M,L⟩:=X6 FC
      exact⟨a,b,c,M,lx L⟩))
     generalize u3.setCell ⟨u,2,Y⟩ (U (V ⟨gg,0,Y⟩) (G+1) HK)=w6 at bt ba a5 cp⊢;clear RV M6 bd eB LM FC WB RT OH aa eT NV RE H1 MB A2;refine bx _ _ ?_;clear bx;go_wp2
     go_roundg (Z z-(j+1))
     case measure=>have:=Aa ek;omega
     case rel=>exact⟨j+1,by go_num,by omega,rfl,bt,ba,a5,cp⟩
    .have c7:lO (Ls w0 u (U B0 (Z AT) BT) [] [] ((Hm r s1).foldl A9 s1) (B2++IS.map (Prod.mk y)) wr):=by
      have h:=Aa HI;rw[gR (by omega),gR (by have h:=congrArg List.length (Aa QQ);rw[ie]at h;omega)]at h;obtain⟨EY,EK,N,W,T,xs,g1,g2,g3,g4,g5,g6,g7⟩:=h.out;exact⟨h.kept,h.yd,EY,EK,N,W,T,xs,g1,g2,g3,g4,λq d=>⟨(g5 q d).1,by simp⟩,λq d=>by simp,g7⟩
     have c5:lO (HU (B2++IS.map (Prod.mk y)) ((Hm r s1).foldl A9 s1)):=by
      have h:=Aa X0 (Z (Hm r s1));rw[j6,gR (by have h:=congrArg List.length (Aa QQ);rw[ie]at h;omega)]at h;exact h
     go_wp2_with fail
     go_roundg (Z ns-(k+1))
     case measure=>have:=Aa HG;omega
     case rel=>exact⟨k+1,(Hm r s1).foldl A9 s1,B2++IS.map (Prod.mk y),by go_num,by omega,rfl,EU.symm,c5,c7,bn⟩
  .have HE:lO (s1=(Fv (Ep ft) ds s).1):=by
    have h:=Aa X1;rw[gR (by have:=Aa XS;omega)]at h;exact h
   obtain⟨EY,EK,N,W,T,xs,hb,_⟩:=(Aa HH).out;have c2:=hb.cell 2;simp at c2;obtain⟨S1,WW⟩:∃S1,Z s1=S1:=⟨_,rfl⟩;rw[WW]at c2;have e5:=Ab WW;clear hb WW;go_wp2;go_ret;refine⟨s1,B2,HE,?_,VR,HH,M2⟩;rw[Aa c3,Aa e5]
   first|rfl|(simp;done)|simp
