import Derived.Test.YtoihbhenbmffcaaGreatDoorZBH
import Derived.Test.YtoihbhenbmffcaaGreatDoorZBN
set_option linter.unusedVariables false
set_option linter.unusedSimpArgs false
set_option maxHeartbeats 6400000
namespace Go.Proofs.YtoihbhenbmffcaaGreatDoor
open Go.RowKit
open Go.Proofs.Tryz
theorem F2.at{α β:Type}{R:α->β->Prop}:∀{l:List α} {m:List β},F2 R l m->∀k (c:k<l.length) (d:k<m.length),R l[k] m[k]
 |[],[],_,k,c,_=>by simp at c
 |a::l,b::m,h,0,_,_=>h.1
 |a::l,b::m,h,k+1,c,d=>F2.at (l:=l) (m:=m) h.2 k (by simpa using c) (by simpa using d)
theorem Dy.put{w':World}{b n:Nat}{L:cL->Nat}{D:DataW Unit}{x:cL}{v:Nat}(d:Maps.IsMap D)(c:∀y,D.atKey (PN y) (.lit (.int .i64 0))= .lit (.int .i64 (L y)))(h:w'.ownsMap prog 9 (plainElem prog 3) b n (D.put (PN x) (.lit (.int .i64 v)))):Dy w' b n (MD L x v):=by
 refine⟨_,h,?_,λy=>?_⟩
 ·obtain⟨f,g,_,_,_,e⟩:=h;exact⟨_,e⟩
 ·by_cases a:y=x
  ·subst a;rw[F9,Maps.atKey_put_same d (by unfold PN;exact trivial)]
  ·rw[Hs _ a,Maps.atKey_put_other (λe=>a (Xv e))];exact c y
theorem Dy.mono{w:World}{b n a:Nat}{L:cL->Nat}(h:Dy w b n L)(e:n<=a):Dy w b a L:=by
 obtain⟨D,d,c⟩:=h.at_;exact⟨D,d.mono e,c⟩
theorem Pf:∀(a:List Bf),Dz a (λ_=>0)=0
 |[]=>rfl
 |c::a=>by
  have e:Dz (c::a) (λ_=>0)=0+Dz a (λ_=>0):=by unfold Dz;rw[aI,List.sum_cons]
  rw[e,Pf a]
theorem Uc(x:cL):(DataW.map []:DataW Unit).atKey (PN x) (.lit (.int .i64 0))= .lit (.int .i64 0):=by
 first|rfl|(unfold PN;rfl)|simp[DataW.atKey]
def Zt(rcs:List Bf)(lev:cL->Nat)(w:World)(r:Ending)(w':World):Prop:=∃(mb n:Nat) (L:cL->Nat),r= .returned (.map (some mb))/\Dy w' mb n L/\Dt rcs L/\(∀x,L x<=lev x)/\w.heap.size<=mb/\Ac [] w w'
set_option maxRecDepth 100000
theorem Lf(HZ:Option Addr)(HV:Nat)(f:List Da)(d:List Bf)(w:World)(l:cL->Nat)(hP:Dv w (.slice HZ f.length HV) f)(hC:F2 Qg f d)(NL:f.length<=1000)(HX:∀c∈f,c.lvs.length<=1000)(HC:∀c∈f,c.hn.size<=1000000/\∀p∈c.lvs,p.1.an.size<=1000000)(hL:Dt d l)(H0:∀x,l x<=1000)(HN:Dz d l<=100000):
  Calls prog 166 #[.slice HZ f.length HV] w λr w'=>Zt d l w r w':=by
 have H1:=Ab hP;have MN:=Ab hC;have H7:=Ab HX;have Jx:=Ab HC;have H3:=Ab hL;have J:=Ab H0;have K5:=Ab HN;have HB:=Ab hC.length;have Q:Hid (Dy (w.alloc (.map #[] 0)) w.heap.size 0 (λ_=>0)):=⟨.map [],World.ownsMap_made w _ _ _,⟨_,rfl⟩,Uc⟩;have FA:=Ab ((Ac.refl [] w).alloc (.map #[] 0));have L0:= @run_makeMap prog;obtain⟨n,S⟩:∃n,w.heap.size=n:=⟨_,rfl⟩;have Go:=Ab S;clear hP hC HX HC hL H0 HN;go_enter func166,ntmps166;go_wp2_with fail
 generalize hw1:w.alloc (.map #[] 0)=w1 at Q FA⊢;clear hw1 L0;rw[S]at Q
 try rw[S]
 clear S
 go_loopg [4] (Dz d l+2) (λgk rv wr=>∃(R:Bool) (L:cL->Nat),rv= .bool R/\gk=(if R then Dz d l-Dz d L+2 else 1)/\Hid (Dy wr n (Dz d L) L)/\Hid (∀x,L x<=l x)/\Hid (R=false->Dt d L)/\Hid (Ac [] w wr))
 case atStart=>
  refine⟨true,λ_=>0,rfl,?_,(Aa Q).mono (aG _),λx=>aG _,λh=>(by cases h),FA⟩;rw[if_pos rfl,Pf,Nat.sub_zero]
 case round=>
  clear Q FA;obtain⟨R,L,rfl,HY,u,AB,Mo,s⟩:=hrel;have HG:=Ab HY;clear HY;cases R with
  |false=>
   have H8:=Ab (Aa Mo rfl);go_wp2;go_ret;exact⟨n,_,L,rfl,Aa u,Aa H8,Aa AB,by have:=Aa Go;omega,Aa s⟩
  |true=>
   go_wp2_with fail
   go_loopg [4,12] f.length (λNx rv i wq=>∃(k:Nat) (m:Bool) (a:cL->Nat),rv= .bool m/\i= .int .i64 k/\k<=f.length/\Nx=f.length-k/\Hid ((d.take k).foldl DJ (L,false)=(a,m))/\Hid (Dy wq n (Dz d a) a)/\Hid (Ac [] w wq))
   case atStart=>exact⟨0,false,L,rfl,rfl,by omega,rfl,rfl,u,s⟩
   case round=>
    clear u s;obtain⟨k,m,a,rfl,rfl,hk,HI,U,u,s⟩:=hrel;have HQ:=Ab HI;clear HI;have FW:Hid ((∀x,a x<=l x)/\Dz d a<=Dz d l):=by
     have h:=Ii (Aa H3) (d.take k) L false (λc hc=>cT hc) (Aa AB);rw[Aa U]at h;exact⟨h.2.1,Ur h.2.1⟩
    by_cases Y:k<f.length
    ·(have AT:k<d.length:=by have:=Aa HB;omega);have P:=(Aa MN).at k Y AT;obtain⟨g,NX,hp,e,FC,FT,T,N,M,o,he,HF,d0,d1,d2,d3⟩:=FI ((Aa H1).kept (Aa s)) k Y;simp only[Z6]at he;obtain⟨rfl,-,rfl⟩:=he;have K:f[k]∈f:=Z7 Y;have EK:=(Aa H1).each _ K;have Bx:=Aa H7 _ K;have G:=Aa Jx _ K;rw[HF]at P EK Bx G;have EY:=Ab ((Aa s).alloc (.cells #[.int .i64 hp, .string e, .slice FT FC.length T, .slice N o.length M] 189));have FO:=Ab ((Aa u).keptOf ((Ac.refl [] wr).alloc (.cells #[.int .i64 hp, .string e, .slice FT FC.length T, .slice N o.length M] 189)) (by simp));have HH:=Ab (Aw.new wr [.int .i64 hp, .string e, .slice FT FC.length T, .slice N o.length M] 189);have z:=Aa FW;have Z:=Ab (MQ n (Dz d a) a N M o _ (Aa FO) (EK.body.kept (Aa EY) (by simp)) Bx (λx=>by have:=z.1 x;have:=Aa J x;omega) G.2);have BA:Gd a 0 (o.map Prod.fst)=FR a (Al d[k]):=by
      have t:=F2.fst P.lits;simp only at t;rw[t,Nh];rfl
     have C:e=d[k].head.name:=P.hn;have H2:Hid ((d.take (k+1)).foldl DJ (L,false)=DJ (a,m) d[k]):=by
      show _=_;rw[ac AT,bD,Aa U];rfl
     have CL:Hid (DJ (a,m) d[k]=if a e<Gd a 0 (o.map Prod.fst)then(MD a e (Gd a 0 (o.map Prod.fst)),true)else(a,m)):=by
      show _=_;unfold DJ;rw[BA,C]
     have LL:Hid (∀v,a e<v->Dz d a+1<=Dz d (MD a e v)):=by
      intro v hv;refine Ys (λx=>?_) (Z7 AT) ?_
      ·by_cases W:x=e
       ·rw[W,F9];omega
       ·rw[Hs _ W];exact au _
      ·rw[<-C,F9];exact hv
     have CC:=Us G.1;have I:=z.1 e;have K2:=Aa J e;(have NV:Hid (a e<=1000):=by show a e<=1000;omega);(have LE:Hid (Dz d a<=100000):=by have:=z.2;have:=Aa K5;show Dz d a<=100000;omega);have HO:Hid (Gd a 0 (o.map Prod.fst)<=100000):=by
      have h:=Ln (L:=a) (b:=2000) (Al d[k]) 0 (by omega) (λx W=>⟨λ_=>by have:=z.1 x.A.name;have:=Aa J x.A.name;omega,λ_=>by have:=z.1 x.A.name;have:=Aa J x.A.name;omega⟩);rw[BA];have t:FR a (Al d[k])<=2000:=h;show FR a (Al d[k])<=100000;omega
     clear P EK Bx G K HF z BA C I K2;obtain⟨j,H4⟩:∃j,Gd a 0 (o.map Prod.fst)=j:=⟨_,rfl⟩;rw[H4]at Z CL HO;clear H4 s u FW;(go_wp2_with fail);refine(Aa Z).mono ?_;rintro _ w3 ⟨rfl,O⟩;have HW:=Ab ((Aa EY).trans O);have Ax:=(Aa FO).keptOf O (by simp);have Nq:=Ab Ax;have X:=(Aa HH).kept O (by simp);have e0:=X.cell 0;have e1:=X.cell 1;simp at e0 e1;obtain⟨D,FF,HS,hD⟩:=Ax.at_;have K9:=Ab HS;have HD:=Ab hD;obtain⟨y,I⟩:∃y,a e=y:=⟨_,rfl⟩;have E:=Ab I;clear Ax X HH FO EY Z O d0 d1 d2 d3 HS hD I;by_cases Ha:y<j
     ·(have LS:(y:Int)<(j:Int):=by omega);have M6:plainElem (H:=Unit) prog 3 (.int .i64 (j:Int))=some (.lit (.int .i64 (j:Int)),[]):=plainElem_int underlying3 (by
       have:=Aa HO
       simp[Lit.wf,IntKind.min,IntKind.max,IntKind.signed,IntKind.bits]
       omega)
      (have C:Dz d a<maxLen:=by have:=Aa LE;unfold maxLen;omega);clear Ha;go_wp2_with (first
       |(at_lookup;refine wpList_lookup_own_int _ rfl _ _ 269 rfl 9 3 .i64 (Maps.string_keyed underlying9) underlying269 underlying3 (zeroValue3 _) n (Dz d a) D rfl FF _ _ rfl CC ?_;intro c F EX;obtain rfl:c=(y:Int):=(by have h:=F.symm.trans (Aa HD e);rw[Aa E]at h;simpa using h);clear F EX)
       |(at_mapUpdate;refine wpList_mapUpdate_own _ rfl _ _ _ 269 rfl 9 3 (Maps.string_keyed underlying9) underlying269 _ n (Dz d a) D rfl FF C _ _ (PN e) rfl rfl CC _ [] M6 ?_;intro w4 KK Ix))
      have K6:Hid (Dy w4 n (Dz d (MD a e j)) (MD a e j)):=(Dy.put (Aa K9) (Aa HD) KK).mono (Aa LL j (by have:=Aa E;omega));have MY:Hid (Ac [] w w4):=(Aa HW).grown Ix (λq hq=>Or.inr (by simp only[ai]at hq;have:=Aa Go;omega));have B9:Hid ((d.take (k+1)).foldl DJ (L,false)=(MD a e j,true)):=by show _=_;rw[Aa H2,Aa CL,if_pos (by have:=Aa E;omega)]
      go_roundg (f.length-(k+1))
      case measure=>have:=Aa HQ;omega
      case rel=>exact⟨k+1,true,MD a e j,rfl,by go_num,by omega,rfl,B9,K6,MY⟩
     ·(have LS:¬(y:Int)<(j:Int):=by omega);(have B9:Hid ((d.take (k+1)).foldl DJ (L,false)=(a,m)):=by show _=_;rw[Aa H2,Aa CL,if_neg (by have:=Aa E;omega)]);clear Ha;go_wp2_with (at_lookup;refine wpList_lookup_own_int _ rfl _ _ 269 rfl 9 3 .i64 (Maps.string_keyed underlying9) underlying269 underlying3 (zeroValue3 _) n (Dz d a) D rfl FF _ _ rfl CC ?_;intro c F EX;obtain rfl:c=(y:Int):=(by have h:=F.symm.trans (Aa HD e);rw[Aa E]at h;simpa using h);clear F EX)
      go_roundg (f.length-(k+1))
      case measure=>have:=Aa HQ;omega
      case rel=>exact⟨k+1,m,a,rfl,by go_num,by omega,rfl,B9,Nq,HW⟩
    ·have HJ:Hid (JF d L=(a,m)):=by
      have h:=Aa U;rw[Z9 (by have:=Aa HB;omega)]at h;exact h
     have HE:=Ab (TW (Aa H3) (Aa AB));go_wp2_with fail
     go_roundg (if m then Dz d l-Dz d a+2 else 1)
     case measure=>
      have B:=Aa HE;rw[Aa HJ]at B;have t:=Aa HG;simp only[if_true]at t;cases m with
      |true=>
       have V:=B.2.2.1 rfl;have h4:=B.2.2.2;simp only at V h4;simp only[if_true];omega
      |false=>
       simp only[Z8,if_false];omega
     case rel=>
      refine⟨m,a,rfl,rfl,u,λx=>(Aa FW).1 x,λhm=>?_,s⟩;have B:=(Aa HE).2.1;rw[Aa HJ]at B;obtain⟨t,V⟩:=B hm;simp only at t;rw[t];exact V
theorem Tryz.info221:(Tryz.prog.info? 221).map (λi=>(i.zero,i.size,i.bytes))=some (some (.slice none 0 0),1,24):=by kernel_rfl
abbrev MG:=List Nat×Value
structure Dl(w:World)(base:Nat)(pv:Value)(ps:List MG):Prop where
 row:w.ownsRow base 221 1 pv ps.length (ps.flatMap λp=>[p.2])
 each:∀p∈ps,w.ownsRow base 3 1 p.2 p.1.length (p.1.flatMap BG)
 apart:ps.Pairwise λa b=>∀q,a.2.ownBlock=some q->b.2.ownBlock≠some q
theorem Dl.kept{w w':World}{base:Nat}{b:Value}{a:List MG}(h:Dl w base b a)(k:Ac [] w w'):Dl w' base b a:=⟨Ad h.row k (by simp),λp c=>Ad (h.each p c) k (by simp),h.apart⟩
theorem VV{w w':World}{v:Value}{base d n m:Nat}{l:List Value}{a:Value}{c:List Value}(h:w.ownsRow base 3 1 v n l)(b:w.ownsRow d 221 1 a m c)(f:w.grownBy w' a.ownBlock):w'.ownsRow base 3 1 v n l:=
 bS h f (by
  cases hp:v.ownBlock with
  |none=>exact Or.inl rfl
  |some q=>exact Or.inr (λe=>Bt h b (by decide) q hp e.symm))
theorem Pm{w:World}{base:Nat}{l:Value}{a:List MG}(h:Dl w base l a)(k:Nat)(i:k<a.length):∃g j f b,l= .slice (some ⟨g,0,none⟩) a.length j/\a[k].2= .slice f a[k].1.length b/\w.cell? ⟨g,k,none⟩=some (.slice f a[k].1.length b):=by
 obtain⟨g,j,m,_,n⟩:=AE h.row (λc _=>rfl) k i;have d:=n k i 0 (by omega);obtain⟨f,b,e⟩:=Ak (h.each _ (Z7 i));simp[e]at d;exact⟨g,j,f,b,m,e,d⟩
structure GS(f:Nat->Nat)(k:Nat)(ps:List MG):Prop where
 lists:∀j (hj:j<ps.length),ps[j].1=(List.range k).filter λi=>f i==j
 top:∀i,i<k->f i<ps.length
 len:ps.length<=1001
theorem GS.more{f:Nat->Nat}{k:Nat}{a:List MG}(h:GS f k a)(l:a.length<=1000)(v:Value):GS f k (a++[([],v)]):=by
 refine⟨λj d=>?_,λi b=>by have:=h.top i b;simp;omega,by simp;omega⟩;by_cases c:j<a.length
 ·rw[List.getElem_append_left c];exact h.lists j c
 ·have e:j=a.length:=by simp at d;omega
  subst e;rw[List.getElem_append_right (au _)];simp only[Nat.sub_self,dN]
  symm
  rw[dP];intro i b g;have m:=h.top i (List.mem_range.1 b);have:f i=a.length:=by simpa using g
  omega
theorem GS.put{f:Nat->Nat}{k:Nat}{a:List MG}(h:GS f k a)(b:f k<a.length)(v:Value):GS f (k+1) (a.set (f k) (a[f k].1++[k],v)):=by
 refine⟨λj c=>?_,λi l=>?_,by rw[cC];exact h.len⟩
 ·have d:j<a.length:=by rw[cC]at c;exact c
  rw[List.range_succ,cE,List.getElem_set];split
  ·rename_i e;subst e;simp only;rw[h.lists _ b]
   congr 1
   simp
  ·rename_i e;rw[h.lists j d];(have:([k].filter λi=>f i==j)=[]:=by simp;exact e);rw[this,aX]
 ·rw[cC];by_cases g:i=k
  ·rw[g];exact b
  ·exact h.top i (by omega)
theorem VZ(b:List MG)(j:Nat)(x:MG):(b.set j x).flatMap (λp=>[p.2])=(b.flatMap λp=>[p.2]).set j x.2:=by
 have e:∀l:List MG,l.flatMap (λp=>[p.2])=l.map λp=>p.2:=λl=>by
  induction l with
  |nil=>rfl
  |cons a l ih=>simp[ih]
 rw[e,e,eF]
theorem Dl.put{w o w':World}{base:Nat}{g cap:Nat}{c:List MG}{j:Nat}(r:j<c.length){x:MG}(h:Dl w base (.slice (some ⟨g,0,none⟩) c.length cap) c)(C:w.grownBy o c[j].2.ownBlock)(I:o.ownsRow base 3 1 x.2 x.1.length (x.1.flatMap BG))(B:∀q,x.2.ownBlock=some q->c[j].2.ownBlock=some q\/w.heap.size<=q)
  (A:w'=o.setCell ⟨g,j,none⟩ x.2):Dl w' base (.slice (some ⟨g,0,none⟩) c.length cap) (c.set j x):=by
 have J:=h.each _ (Z7 r);have D:o.ownsRow base 221 1 (.slice (some ⟨g,0,none⟩) c.length cap) c.length (c.flatMap λp=>[p.2]):=bS h.row C (Or.inr (λe=>Bt h.row J (by decide) g rfl e.symm));have G:∀i (f:i<c.length),i≠j->o.ownsRow base 3 1 c[i].2 c[i].1.length (c[i].1.flatMap BG):=λi f F=>bS (h.each _ (Z7 f)) C (by
  cases s:c[i].2.ownBlock with
  |none=>exact Or.inl rfl
  |some q=>
   refine Or.inr (λe=>?_)
   have l:=bV.1 h.apart
   rcases Nat.lt_or_gt_of_ne F with d|d
   ·exact l i j f r d q s e.symm
   ·exact l j i r f d q e.symm s)
 have E:∀{v:Value} {n:Nat} {z:List Value},o.ownsRow base 3 1 v n z->w'.ownsRow base 3 1 v n z:=fun{v n z} hv=>by
  rw[A];exact Ag hv (λe=>Bt hv D (by decide) g e rfl) _
 refine⟨?_,λp s=>?_,?_⟩
 ·rw[cC,VZ,A];exact Fb D j x.2
 ·obtain⟨i,f,rfl⟩:=aZ s;rw[cC]at f;rw[List.getElem_set];split
  ·exact E I
  ·rename_i e;exact E (G i f (λH=>e H.symm))
 ·have l:=bV.1 h.apart;refine bV.2 (λa b u t y q m k=>?_);rw[cC]at u t;rw[List.getElem_set]at m k;split at m
  ·rename_i e;subst e;rw[if_neg (by omega)]at k;rcases B q m with d|d
   ·exact l j b r t y q d k
   ·have:=((h.each _ (Z7 t)).lt q k).2;omega
  ·split at k
   ·rename_i e;subst e;rcases B q k with d|d
    ·exact l a j u r y q m d
    ·have:=((h.each _ (Z7 u)).lt q m).2;omega
   ·exact l a b u t y q m k
def FU(pcs:List Da)(i:Nat):cL:=((pcs[i]?).map Da.hn).getD ByteArray.empty
def U3(pcs:List Da)(rcs:List Bf)(lev:cL->Nat)(w:World)(r:Ending)(w':World):Prop:=∃(ad:Option Addr) (cp:Nat) (ps:List MG) (L:cL->Nat),r= .returned (.slice ad ps.length cp)/\Dl w' w.heap.size (.slice ad ps.length cp) ps/\GS (λi=>L (FU pcs i)) pcs.length ps/\Dt rcs L/\(∀x,L x<=lev x)/\Ac [] w w'
theorem TY(HO:Option Addr)(HJ:Nat)(m:List Da)(T:List Bf)(w:World)(U:cL->Nat)(hP:Dv w (.slice HO m.length HJ) m)(hC:F2 Qg m T)(LB:m.length<=1000)(KK:∀c∈m,c.lvs.length<=1000)(FO:∀c∈m,c.hn.size<=1000000/\∀p∈c.lvs,p.1.an.size<=1000000)(hL:Dt T U)(HP:∀x,U x<=1000)(H3:Dz T U<=100000):
  Calls prog 123 #[.slice HO m.length HJ] w λr w'=>U3 m T U w r w':=by
 obtain⟨i0,RB,MN,RV,OH⟩:=bj Tryz.info221;obtain⟨j0,LS,QQ,K7,MY⟩:=bj Tryz.info3c;have SP:=Ab hP;have LM:=Ab FO;have Nq:=Ab HP;have H5:=Ab (Lf HO HJ m T w U hP hC LB KK FO hL HP H3);obtain⟨z,H7⟩:∃z,w.heap.size=z:=⟨_,rfl⟩;have R:=Ab H7;clear hP hC KK FO hL HP H3 H7;go_enter func123,ntmps123;go_wp2_with fail
 refine(Aa H5).mono ?_;rintro _ w1 ⟨H,n,L,rfl,hM,Jx,K5,SB,k1⟩;have K4:=Ab hM;have K9:=Ab Jx;have HZ:=Ab K5;have HS:=Ab k1;have ST:Hid (z<=H):=by have:=Aa R;show z<=H;omega
 clear H5 hM Jx K5 SB k1;go_wp2_with fail
 go_loopg [4,12] m.length (λgk pv i wr=>∃(k:Nat) (f:List MG) (E:Option Addr) (y:Nat),pv= .slice E f.length y/\i= .int .i64 k/\k<=m.length/\gk=m.length-k/\Hid (GS (λi=>L (FU m i)) k f)/\Hid (Dl wr z (.slice E f.length y) f)/\Hid (Dy wr H n L)/\Hid (Ac [] w wr))
 case atStart=>exact⟨0,[],none,0,rfl,rfl,by omega,rfl,⟨λj hj=>by simp at hj,λi hi=>by omega,by simp⟩,⟨ax _ _ _ _,λp K=>by simp at K,List.Pairwise.nil⟩,K4,HS⟩
 case round=>
  clear K4 HS;obtain⟨k,f,E,y,rfl,rfl,hk,K2,P,F,N,J⟩:=hrel;have HG:=Ab K2;clear K2;by_cases FW:k<m.length
  ·obtain⟨g,RO,K,I,CL,EX,AT,B9,BA,Bx,Y,FT,d0,d1,d2,d3⟩:=FI ((Aa SP).kept (Aa J)) k FW;simp only[Z6]at Y;obtain⟨rfl,-,rfl⟩:=Y;have FC:=(Aa LM _ (Z7 FW)).1;rw[FT]at FC;have H6:=Us FC;have N4:Hid (FU m k=I):=by
    show _=_;unfold FU;rw[aA FW,FT];rfl
   (have NX:L I<=1000:=by have:=Aa HZ I;have:=Aa Nq I;omega);have HE:=Ab ((Aa J).alloc (.cells #[.int .i64 K, .string I, .slice EX CL.length AT, .slice B9 Bx.length BA] 189));have FF:=(Aa N).keptOf ((Ac.refl [] wr).alloc (.cells #[.int .i64 K, .string I, .slice EX CL.length AT, .slice B9 Bx.length BA] 189)) (by simp);have HN:=Ab FF;have Ax:=Ab ((Aa F).kept ((Ac.refl [] wr).alloc (.cells #[.int .i64 K, .string I, .slice EX CL.length AT, .slice B9 Bx.length BA] 189)));obtain⟨D,Ix,PT,hD⟩:=FF.at_;have HD:=Ab (hD I);obtain⟨l,HC⟩:∃l,L I=l:=⟨_,rfl⟩;rw[HC]at HD NX;(have Mo:Hid (L (FU m k)=l):=by show _=_;rw[Aa N4];exact HC);clear FF PT hD FC FT HC F N J;go_wp2_with (at_lookup;refine wpList_lookup_own_int _ rfl _ _ 269 rfl 9 3 .i64 (Maps.string_keyed underlying9) underlying269 underlying3 (zeroValue3 _) H n D rfl Ix _ _ rfl H6 ?_;intro c K1 Pl;obtain rfl:c=(l:Int):=(by have h:=K1.symm.trans (Aa HD);simpa using h);clear K1 Pl)
   clear Ix HD H6 d0 d1 d2 d3;generalize wr.alloc (.cells #[.int .i64 K, .string I, .slice EX CL.length AT, .slice B9 Bx.length BA] 189)=wa at HE HN Ax⊢
   go_loopg [4] (l+2-f.length) (λSJ pv wq=>∃(f:List MG) (E:Option Addr) (y:Nat),pv= .slice E f.length y/\SJ=l+2-f.length/\Hid (GS (λi=>L (FU m i)) k f)/\Hid (Dl wq z (.slice E f.length y) f)/\Hid (Dy wq H n L)/\Hid (Ac [] w wq))
   case atStart=>exact⟨f,E,y,rfl,rfl,P,Ax,HN,HE⟩
   case round=>
    clear P Ax HN HE;obtain⟨f,E,y,rfl,K3,P,F,N,J⟩:=hrel;have Os:=Ab K3;clear K3;(have TV:z<=wr.heap.size:=by have:=(Aa J).size;have:=Aa R;omega);by_cases TH:f.length<=l
    ·(have NV:(f.length:Int)<=(l:Int):=by omega);have v:=(Aa F).row;go_wp2_with (at_builtin;refine ay _ rfl (.tmp 26) (.tmp 27) _ rfl z 221 i0 _ 1 24 underlying219 RB MN RV OH rfl (by omega) (.slice E f.length y) f.length (f.flatMap λp=>[p.2]) rfl (ah v _) ⟨wr.heap.size,0,none⟩ 1 1 [.slice none 0 0] rfl rfl (aF (cs:=#[.slice none 0 0]) (t:=221) (fr:=(0,0)) (aS wr _)) (by simp[Value.oneCell']) (by omega) (by unfold maxLen;omega) (by omega) (by simp;omega) (wr.heap.size+1) (by simp) ?_;intro G C u W A AH FP)
     have BT:=Ab ((Aa P).more (by omega) (.slice none 0 0));have V:Hid (Dl u z (.slice (some ⟨G,0,none⟩) (f++[([],Value.slice none 0 0)]).length C) (f++[([],Value.slice none 0 0)])):=by
      refine⟨?_,λp K=>?_,?_⟩
      ·rw[aN];simp only[am,ak,aH,bf,aB,bq,aX];exact W
      ·rcases aw.1 K with h|h
       ·exact VV (ah ((Aa F).each p h) _) (ah v _) A
       ·simp only[ae]at h;subst h;exact ax _ _ _ _
      ·rw[dz];refine⟨(Aa F).apart,by simp,λa ha b B q _ s=>?_⟩;simp only[ae]at B;subst B;simp[Value.ownBlock]at s
     have HQ:Ac [] w u:=((Aa J).alloc (.cells #[.slice none 0 0] 221)).grown A (λq s=>Or.inr (by have:=(v.lt q s).1;have:=Aa R;omega));have EY:Hid (Dy u H n L):=by
      have EK:=(Aa N).keptOf ((Ac.refl [] wr).alloc (.cells #[.slice none 0 0] 221)) (by simp);refine EK.keptOf (M:=(Value.slice E f.length y).ownBlock.toList) ((Ac.refl _ _).grown A (λq s=>Or.inl (by rw[s];simp))) (λQ=>?_);obtain⟨D,⟨es,HW,B,_⟩,_⟩:=EK.at_;rcases(ah v (.cells #[.slice none 0 0] 221)).2 with⟨e,_⟩|⟨g',c',HU,e,_,X,_⟩
      ·rw[e]at Q;simp[Value.ownBlock]at Q
      ·rw[e]at Q;simp[Value.ownBlock]at Q;subst Q;rw[X]at B;cases B
     have CC:=Ab HQ;clear W A AH FP v HQ
     go_roundg (l+2-(f.length+1))
     case measure=>have:=Aa Os;omega
     case rel=>exact⟨f++[([],Value.slice none 0 0)],some ⟨G,0,none⟩,C,by simp,by simp,BT,V,EY,CC⟩
    ·(have NV:¬(f.length:Int)<=(l:Int):=by omega);(have O:l<f.length:=by omega);(have TL:(0:Int)<=(l:Int):=by omega);(have TS:(l:Int)<(f.length:Int):=by omega);obtain⟨g,RO,S,AB,Y,hv,H0⟩:=Pm (Aa F) l O;simp only[Z6]at Y;obtain⟨rfl,-,rfl⟩:=Y;have v:=(Aa F).each _ (Z7 O);rw[hv]at v;have HV:=Ab hv;have P0:f[l].1.length<=1000:=by
      rw[(Aa P).lists l O];have:=bO (λi=>L (FU m i)==l) (List.range k);rw[List.length_range]at this;omega
     obtain⟨o,HL⟩:∃o,f[l].1=o:=⟨_,rfl⟩;have RI:=Ab HL;rw[HL]at v P0 H0 HV;clear HL hv;have Z:=(Aa F).row;have Ax:=Ab ((Aa F).kept ((Ac.refl [] wr).alloc (.cells #[.int .i64 k] 3)));have NS:Hid (∀u:World,(wr.alloc (.cells #[.int .i64 k] 3)).grownBy u (Value.slice S o.length AB).ownBlock->u.ownsRow z 221 1 (.slice (some ⟨g,0,none⟩) f.length y) f.length (f.flatMap λp=>[p.2])/\u.frozen? ⟨g,l,none⟩=false/\u.cell? ⟨g,l,none⟩=some (.slice S o.length AB)):=by
      intro u A;have HF:u.ownsRow z 221 1 (.slice (some ⟨g,0,none⟩) f.length y) f.length (f.flatMap λp=>[p.2]):=bS (ah Z (.cells #[.int .i64 k] 3)) A (Or.inr (λe=>Bt Z v (by decide) g rfl e.symm));obtain⟨g',S0,HT,_,M0⟩:=AE HF (λc _=>rfl) l O;simp only[Z6,ai,aW]at HT;obtain⟨⟨rfl,-,-⟩,-,-⟩:=HT;have d:=M0 l O 0 (by omega);simp[Aa HV]at d;exact⟨HF,HF.frozenAt l,d⟩
     go_wp2_with (at_builtin;refine ay _ rfl (.tmp 34) (.tmp 36) _ rfl z 3 j0 _ 1 8 underlying221 LS QQ K7 MY rfl (by omega) (.slice S o.length AB) o.length (o.flatMap BG) rfl (ah v _) ⟨wr.heap.size,0,none⟩ 1 1 [.int .i64 k] rfl rfl (aF (cs:=#[.int .i64 k]) (t:=3) (fr:=(0,0)) (aS wr _)) (by simp[Value.oneCell']) (by omega) (by unfold maxLen;omega) (by omega) (by simp;omega) (wr.heap.size+1) (by simp) ?_;intro G C u W A AH FP;have n9:=Aa NS u A;have f9:=n9.2.1;have c9:=n9.2.2;clear n9)
     have hx:u.ownsRow z 3 1 (.slice (some ⟨G,0,none⟩) (o++[k]).length C) (o++[k]).length ((o++[k]).flatMap BG):=by
      rw[aN];simp only[am,ak,aH,bf,aB,bq,aX];exact W
     have V:=Ab (Dl.put (x:=(o++[k],Value.slice (some ⟨G,0,none⟩) (o++[k]).length C)) O (Aa Ax) (by rw[Aa HV];exact A) hx (λq s=>by
      simp only[Value.ownBlock,ai]at s
      subst s
      rw[Aa HV]
      rcases AH with h|h
      ·exact Or.inl h
      ·exact Or.inr (by simp;omega)) rfl)
     have BT:Hid (GS (λi=>L (FU m i)) (k+1) (f.set l (o++[k],Value.slice (some ⟨G,0,none⟩) (o++[k]).length C))):=by
      have hf:=Aa Mo;have h:=(Aa P).put (by simp only[hf];exact O) (.slice (some ⟨G,0,none⟩) (o++[k]).length C);simp only[hf]at h;rw[Aa RI]at h;exact h
     have LE:=ah v (.cells #[.int .i64 k] 3);have HY:∀q,(Value.slice S o.length AB).ownBlock=some q->q≠H:=by
      intro q s e;subst e;obtain⟨D,⟨es,HW,B,_⟩,_⟩:=(Aa N).at_;rcases v.2 with⟨e,_⟩|⟨g',c',HU,e,_,X,_⟩
      ·rw[e]at s;simp[Value.ownBlock]at s
      ·rw[e]at s;simp[Value.ownBlock]at s;subst s;rw[X]at B;cases B
     have N2:g≠H:=by
      intro e;subst e;obtain⟨D,⟨es,HW,B,_⟩,_⟩:=(Aa N).at_;rcases Z.2 with⟨e,_⟩|⟨g',c',HU,e,_,X,_⟩
      ·cases e
      ·simp only[Z6,ai,aW]at e;obtain⟨⟨rfl,-,-⟩,-,-⟩:=e;rw[X]at B;cases B
     have EY:Hid (Dy (u.setCell ⟨g,l,none⟩ (.slice (some ⟨G,0,none⟩) (o.length+1) C)) H n L):=by
      have EK:=(Aa N).keptOf ((Ac.refl [] wr).alloc (.cells #[.int .i64 k] 3)) (by simp);have NL:=EK.keptOf (M:=(Value.slice S o.length AB).ownBlock.toList) ((Ac.refl _ _).grown A (λq s=>Or.inl (by rw[s];simp))) (λQ=>HY H (by simpa using Q) rfl);exact NL.keptOf (M:=[g]) ((Ac.refl [g] u).setCell (p:=⟨g,l,none⟩) (Or.inl (by simp)) _) (by simp;exact λe=>N2 e.symm)
     have CC:=Ab ((((Aa J).alloc (.cells #[.int .i64 k] 3)).grown A (λq s=>Or.inr (by have:=(v.lt q s).1;have:=Aa R;omega))).setCell (p:=⟨g,l,none⟩) (Or.inr (by have:=(Z.lt g rfl).1;have:=Aa R;simp;omega)) (.slice (some ⟨G,0,none⟩) (o.length+1) C));simp only[am,ak,aH,bf]at V BT;generalize u.setCell ⟨g,l,none⟩ (.slice (some ⟨G,0,none⟩) (o.length+1) C)=wz at V EY CC⊢;clear W A AH FP v Z f9 c9 hx LE HY H0;go_wp2
     go_roundg (m.length-(k+1))
     case measure=>have:=Aa HG;omega
     case rel=>exact⟨k+1,f.set l (o++[k],Value.slice (some ⟨G,0,none⟩) (o.length+1) C),some ⟨g,0,none⟩,y,by simp,by go_num,by omega,rfl,BT,by rw[cC];exact Aa V,EY,CC⟩
  ·have Nx:Hid (GS (λi=>L (FU m i)) m.length f):=by
    (have e:k=m.length:=by omega);have h:=Aa P;rw[e]at h;exact h
   go_wp2;go_ret;exact⟨E,y,f,L,rfl,by rw[Aa R];exact Aa F,Aa Nx,Aa K9,Aa HZ,Aa J⟩
structure FV(w w':World):Prop where
 size:w.heap.size<=w'.heap.size
 at_:∀(q:Nat) (cs:Array Value) (t:TypeId) (fr:Nat×Nat),w.heap[q]?=some (Obj.cells cs t fr)->t≠139->t≠104->t≠176->w'.heap[q]?=some (Obj.cells cs t fr)
theorem FV.refl(w:World):FV w w:=⟨au _,λ_ _ _ _ h _ _ _=>h⟩
theorem FV.trans{a b c:World}(h:FV a b)(k:FV b c):FV a c:=⟨bM h.size k.size,λq e t i j f d g=>k.at_ q e t i (h.at_ q e t i j f d g) f d g⟩
theorem FV.of{M:List Nat}{w w':World}(k:Ac M w w')(g:∀q∈M,∃(c:Array Value) (t:TypeId) (d:Nat×Nat),w.heap[q]?=some (Obj.cells c t d)/\(t=139\/t=104\/t=176)):FV w w':=by
 refine⟨k.size,λq c t d a i f l=>?_⟩;rw[k.block q (bg.1 a).1 (λe=>?_)]
 ·exact a
 ·obtain⟨m,n,o,b,j⟩:=g q e;rw[a]at b;simp only[ai,Obj.cells.injEq]at b;obtain⟨_,rfl,_⟩:=b;rcases j with h|h|h
  ·exact i h
  ·exact f h
  ·exact l h
theorem FV.kept{w w':World}(k:Ac [] w w'):FV w w':=FV.of k (λq a=>by simp at a)
theorem FV.row{w w':World}(h:FV w w'){base e a n:Nat}{v:Value}{d:List Value}(b:w.ownsRow base e a v n d)(k:e≠139)(j:e≠104)(p:e≠176):w'.ownsRow base e a v n d:=by
 refine⟨b.1,?_⟩;rcases b.2 with l|⟨g,c,f,rfl,o,r,s,i,q,m⟩
 ·exact Or.inl l
 ·exact Or.inr ⟨g,c,f,rfl,o,h.at_ _ _ _ _ r k j p,s,i,q,m⟩
theorem UP{w:World}{b:Nat}{cs:List Value}{t:TypeId}(h:Aw w b cs t):∃(c:Array Value) (a:TypeId) (d:Nat×Nat),w.heap[b]?=some (Obj.cells c a d)/\a=t:=⟨_,_,_,h,rfl⟩
theorem UT{w:World}{base e d n:Nat}{v:Value}{i:List Value}(h:w.ownsRow base e d v n i){q:Nat}(a:v.ownBlock=some q):∃(f:Array Value) (b:TypeId) (k:Nat×Nat),w.heap[q]?=some (Obj.cells f b k)/\b=e:=by
 rcases h.2 with⟨rfl,_⟩|⟨g,c,l,rfl,_,j,_⟩
 ·simp[Value.ownBlock]at a
 ·simp only[Value.ownBlock,ai]at a;subst a;exact⟨_,_,_,j,rfl⟩
structure Ft(w0:World)(cb:Nat)(clv:Value)(X:List Nat)(s:List Aj)(w:World):Prop where
 kept:Ac [] w0 w
 cb_:w0.heap.size<=cb
 out:∃(sad:Option Addr) (scp:Nat) (fs:List Fm) (tad:Option Addr) (tcp:Nat) (xs:List Value),Aw w cb [clv, .slice sad fs.length scp, .slice tad s.length tcp] 139/\Mc w (.slice sad fs.length scp) fs/\Ej fs s/\
  w.ownsRow w0.heap.size 176 4 (.slice tad s.length tcp) s.length xs/\(∀q,(Value.slice sad fs.length scp).ownBlock=some q->w0.heap.size<=q)/\∀q,(Value.slice tad s.length tcp).ownBlock=some q->q∉X
theorem Ft.grow{w0 w w':World}{a:Nat}{b:Value}{X:List Nat}{s:List Aj}(h:Ft w0 a b X s w)(k:Ac [] w w'):Ft w0 a b X s w':=by
 obtain⟨o,f,m,d,c,j,i,e,n,g,l⟩:=h.out;exact⟨h.kept.trans k,h.cb_,o,f,m,d,c,j,i.kept k (by simp),e.kept k,n,Ad g k (by simp),l⟩
noncomputable abbrev ZG:Bf->List Aj->UInt8->List cL->List cL:=λc s=>KA (Al c) s
noncomputable abbrev GZ(r:Bf)(s:List Aj):List Aj:=OF (KA (Al r) s) r (Cf r) (C2 r) s
structure UQ(pcs:List Da)(J:List Aj->Prop)(num:Nat)(r:Bf)(s:List Aj):Prop where
 lt:num<pcs.length
 cl:OC (pcs[num]'lt) r s
 nd:(GZ r s).Nodup
 new:∀f∈GZ r s,f∉s/\A6 f/\f.args.length<=1000
 len:(GZ r s).length<=100000
 mid:∀j,J (((GZ r s).take j).foldl Bs s)
theorem PR{s:List Aj}{l:List Aj}{j:Nat}(a:j<l.length):(l.take (j+1)).foldl Bs s=Bs ((l.take j).foldl Bs s) l[j]:=by
 rw[ac a,bD];rfl
theorem Xy{l:List Aj}{s:List Aj}(t:F1 s)(v:∀f∈s,A6 f)(x:l.Nodup)(h:∀f∈l,f∉s/\A6 f):∀j (c:j<l.length),F1 ((l.take j).foldl Bs s)/\(∀f∈(l.take j).foldl Bs s,A6 f)/\(∀f,f∈(l.take j).foldl Bs s↔f∈s\/f∈l.take j)/\l[j]∉(l.take j).foldl Bs s:=by
 have p:∀j,j<=l.length->F1 ((l.take j).foldl Bs s)/\(∀f∈(l.take j).foldl Bs s,A6 f)/\(∀f,f∈(l.take j).foldl Bs s↔f∈s\/f∈l.take j):=by
  intro j
  induction j with
  |zero=>intro _;exact⟨t,v,λf=>by simp⟩
  |succ j ih=>
   intro c;obtain⟨o,k,d⟩:=ih (by omega);(have g:j<l.length:=by omega);have u:=(h _ (Z7 g)).2;obtain⟨a,b,m⟩:=E8 u o k;rw[PR g];refine⟨a,b,λf=>?_⟩;rw[m,d,ac g,aw,ae,or_assoc]
 intro j c;obtain⟨o,k,d⟩:=p j (by omega);refine⟨o,k,d,λq=>?_⟩;rcases(d _).1 q with n|n
 ·exact(h _ (Z7 c)).1 n
 ·obtain⟨i,w,e⟩:=aZ n;rw[aK]at w;rw[di]at e;have r:=bV.1 x i j (by omega) c (by omega);exact r e
theorem Yc(f:Aj):(CK f).things.length=f.args.length:=by unfold CK;simp
theorem Xs(J:List Aj->Prop)(w0:World)(cb:Nat)(lad:Option Addr)(lcp:Nat)(pcs:List Da)(yad:Option Addr)(ycp:Nat)(ns:List Nat)(ds:List Bf)(s:List Aj)(w:World)(hP:Dv w0 (.slice lad pcs.length lcp) pcs)(hlen:pcs.length<=1000)(hns:ns.length<=1000)
  (hY:w.ownsRow 0 3 1 (.slice yad ns.length ycp) ns.length (ns.flatMap BG)) (hC:Ft w0 cb (.slice lad pcs.length lcp) [] s w) (hJ:J s) (hJs:∀s,J s->F1 s/\(∀f∈s,A6 f)/\s.length<=9000)
  (hF2:∀s,J s->F2 (λnum r=>UQ pcs J num r s) ns ds):
  Calls prog 124 #[.pointer (some ⟨cb,0,none⟩), .slice yad ns.length ycp] w λr w'=>∃s',s'=(EU (DM ZG) ds s).1/\r= .returned (.bool (decide (s.length<s'.length)))/\J s'/\Ft w0 cb (.slice lad pcs.length lcp) [] s' w'/\FV w w':=by
 obtain⟨i0,hi0,hz0,hz1,hz2⟩:=bj Tryz.info176;have HPr:=Ab hP;have HYr:=Ab hY;have HCo:=Ab hC;have HJ:=Ab hJ;have HJs:=Ab hJs;have HF2:=Ab hF2;have HDl:Hid (ns.length=ds.length):=(hF2 s hJ).length;obtain⟨sad0,scp0,fs0,tad0,tcp0,xs0,hb0,_⟩:=hC.out;have c2:=hb0.cell 2;simp at c2;obtain⟨S0,hS0⟩:∃S0,s.length=S0:=⟨_,rfl⟩;have HS0:=Ab hS0;rw[hS0]at c2;clear hP hY hC hJ hJs hF2 hb0 hS0;go_enter func124,ntmps124;go_wp2_with fail
 clear c2
 go_loopg [17] ns.length (λgk i wr=>∃(k:Nat) (s1:List Aj),i= .int .i64 k/\k<=ns.length/\gk=ns.length-k/\Hid (s1=((ds.take k).foldl (Ic (DM ZG)) (s,false)).1)/\Hid (J s1)/\Hid (Ft w0 cb (.slice lad pcs.length lcp) [] s1 wr)/\Hid (FV w wr))
 case atStart=>exact⟨0,s,rfl,by omega,rfl,rfl,HJ,HCo,FV.refl _⟩
 case round=>
  clear HCo HJ;obtain⟨k,s1,rfl,hk,hgk,HS1,HJ1,HC1,HR1⟩:=hrel;have HG:=Ab hgk;clear hgk;by_cases hlt:k<ns.length
  ·(have hltd:k<ds.length:=by have:=Aa HDl;omega);have hok:=(Aa HF2 s1 (Aa HJ1)).at k hlt hltd;obtain⟨yg,ycap,he,hyc⟩:=UU ((Aa HR1).row (Aa HYr) (by decide) (by decide) (by decide)) k hlt;simp only[Z6]at he;obtain⟨rfl,-,rfl⟩:=he;obtain⟨num,hnum⟩:∃num,ns[k]=num:=⟨_,rfl⟩;rw[hnum]at hyc hok;obtain⟨r,hr⟩:∃r,ds[k]=r:=⟨_,rfl⟩;rw[hr]at hok;have HSt:Hid (((ds.take (k+1)).foldl (Ic (DM ZG)) (s,false)).1=(GZ r s1).foldl Bs s1):=by
    show _=_;rw[ac hltd,bD,hr];have h:=Aa HS1;rw[aR,List.foldl_nil];generalize(ds.take k).foldl (Ic (DM ZG)) (s,false)=acc at h⊢;rw[h];rfl
   clear hnum hr;obtain⟨sad,scp,fs,tad,tcp,xs,hb,hps,hse,hrow,hlow,hX⟩:=(Aa HC1).out;have HNs:=Ab (Qq cb num lad lcp pcs sad scp fs (.slice tad s1.length tcp) r s1 wr hok.lt hlen hb (by exact(Aa HPr).kept (Aa HC1).kept) hps hse hok.cl hok.len);have HOk:=Ab hok;(have hr0:(0:Int)<=(k:Int):=by omega);(have hr1:(k:Int)<(ns.length:Int):=by omega);have HC2p:Hid (∀w2 nv nn nxs,Ac [] wr w2->w2.ownsRow wr.heap.size 176 4 nv nn nxs->Ft w0 cb (.slice lad pcs.length lcp) nv.ownBlock.toList s1 w2):=λw2 nv nn nxs k2 hn=>⟨(Aa HC1).kept.trans k2,(Aa HC1).cb_,sad,scp,fs,tad,tcp,xs,hb.kept k2 (by simp),hps.kept k2,hse,Ad hrow k2 (by simp),hlow,λq hq hm=>by
    have h1:=(hrow.lt q hq).2
    have h2:=(hn.lt q (by simpa using hm)).1
    omega⟩
   clear hok hb hps hse hrow hlow hX;(go_wp2_with fail);refine(Aa HNs).mono ?_;rintro _ w2 ⟨nad,ncp,sts,rfl,hmap,hnrow,hneach,k2⟩;have HR2:=Ab ((Aa HR1).trans (FV.kept k2));have HMap:=Ab hmap;have HNr:=Ab (Ai hnrow (aG _));have HNe:=Ab hneach;(have hsl:sts.length=(GZ r s1).length:=by have:=congrArg List.length hmap;simpa using this);have HC2:=Ab (Aa HC2p w2 _ _ _ k2 hnrow);have hsl2:=(Aa HOk).len;clear HNs hmap hnrow hneach HC1 HR1 HC2p hyc k2;go_wp2_with fail
   go_loopg [25] sts.length (λgk2 i wq=>∃(j:Nat),i= .int .i64 j/\j<=sts.length/\gk2=sts.length-j/\Hid (Ft w0 cb (.slice lad pcs.length lcp) (Value.slice nad sts.length ncp).ownBlock.toList (((GZ r s1).take j).foldl Bs s1) wq)/\Hid (wq.ownsRow 0 176 4 (.slice nad sts.length ncp) sts.length (sts.flatMap (NT num)))/\Hid (∀st∈sts,DW wq st.f/\st.f.f.things.length<=1000/\∃a n c,st.n= .slice a n c)/\Hid (FV w wq))
   case atStart=>exact⟨0,rfl,by omega,rfl,HC2,HNr,HNe,HR2⟩
   case round=>
    clear HC2 HNr HNe HR2;obtain⟨j,rfl,hj,hgk2,HC3,HNr,HNe,HR3⟩:=hrel;have HG2:=Ab hgk2;clear hgk2;by_cases hltj:j<sts.length
    ·(have hjn:j<(GZ r s1).length:=by omega);obtain⟨g,cap,he,_,hcell⟩:=AE (Aa HNr) (λc _=>rfl) j hltj;simp only[Z6]at he;obtain⟨rfl,-,rfl⟩:=he;have e0:=hcell j hltj 0 (by omega);have e1:=hcell j hltj 1 (by omega);have e2:=hcell j hltj 2 (by omega);have e3:=hcell j hltj 3 (by omega);obtain⟨hpf,hpl,na,nl,nc,hn⟩:=Aa HNe _ (Z7 hltj);have hfe:sts[j].f.f=CK (GZ r s1)[j]:=by
      have h:=congrArg (λl=>l[j]?) (Aa HMap);simp only[cu,aA hltj,aA hjn,cQ,ai]at h;exact h
     obtain⟨⟨⟨⟨fn,fts⟩,fv⟩,nv⟩,hst⟩:∃st,sts[j]=st:=⟨_,rfl⟩;rw[hst]at e0 e1 e2 e3 hpf hpl hn hfe;obtain⟨fad,fcp,hfv⟩:=Ak hpf;simp only at hfv hn hpl hfe;subst hfv hn;obtain⟨fl,hfl⟩:∃fl,fts.length=fl:=⟨_,rfl⟩;simp[NT,hfl]at e0 e1 e2 e3;obtain⟨F,hF⟩:∃F,(GZ r s1)[j]=F:=⟨_,rfl⟩;rw[hF]at hfe;have hnew:=(Aa HOk).new F (by rw[<-hF];exact Z7 hjn);have hjs:=Aa HJs s1 (Aa HJ1);have hfn:=Xy hjs.1 hjs.2.1 (Aa HOk).nd (λf hf=>⟨((Aa HOk).new f hf).1,((Aa HOk).new f hf).2.1⟩) j hjn;rw[hF]at hfn;(have HSj:Hid (((GZ r s1).take (j+1)).foldl Bs s1=Bs (((GZ r s1).take j).foldl Bs s1) F):=by show _=_;rw[PR hjn,hF]);have hjm:=Aa HJs _ ((Aa HOk).mid j);obtain⟨SJ,hSJ⟩:∃SJ,((GZ r s1).take j).foldl Bs s1=SJ:=⟨_,rfl⟩;rw[hSJ]at HC3 hfn HSj hjm;have HFn:=Ab hfn;have HFe:=Ab hfe;have HPf:=Ab hpf;have HNw:=Ab hnew;have HFl:=Ab hfl;obtain⟨sad,scp,fs,tad,tcp,xs,hb,hps,hse,hrow,hlow,hX⟩:=(Aa HC3).out;have hfsl:=hse.len;have HB:=Ab hb;have HPs:=Ab hps;have HSe:=Ab hse;have HRow:=Ab hrow;have HLow:=Ab hlow;have HX:=Ab hX;(have hr0j:(0:Int)<=(j:Int):=by omega);(have hr1j:(j:Int)<(sts.length:Int):=by omega);obtain⟨SL,hSL⟩:∃SL,SJ.length=SL:=⟨_,rfl⟩;have HSL:=Ab hSL;(have HSLb:Hid (SL<=9000):=by show SL<=9000;have:=hjm.2.2;omega);(have HFsb:Hid (fs.length<=9000):=by show fs.length<=9000;have:=hjm.2.2;omega);have HBn:=Ab (Aw.new wr [.string fn, .slice fad fl fcp, .int .i64 num, .slice na nl nc] 176);have HKn:=Ab ((Ac.refl [] wr).alloc (.cells [.string fn, .slice fad fl fcp, .int .i64 num, .slice na nl nc].toArray 176));clear hb hps hse hrow hlow hX hfn hnew hjs hF hfe hpf hst hcell hSJ hjm hfsl hfl hpl hSL;refine wp_seq_k (λK1 hK1=>?_);have HKk:=Ab hK1;clear hK1;go_wp2;refine Aa HKk _ _ ?_;clear HKk K1;refine wp_seq_k (λK1 hK1=>?_);have HKk:=Ab hK1;clear hK1;go_wp2;refine Aa HKk _ _ ?_;clear HKk K1;refine wp_seq_k (λK5 hK5=>?_);have HK5:=Ab hK5;clear hK5;refine wp_block ?_;refine wp_seq_k (λK1 hK1=>?_);have HKk:=Ab hK1;clear hK1;go_wp2;refine Aa HKk _ _ ?_;clear HKk K1 e0 e1 e2 e3;change Code.wp _ _ _ _ (wr.alloc (.cells [.string fn, .slice fad fl fcp, .int .i64 num, .slice na nl nc].toArray 176));generalize hw3:wr.alloc (.cells [.string fn, .slice fad fl fcp, .int .i64 num, .slice na nl nc].toArray 176)=w3 at HBn HKn⊢;clear hw3;obtain⟨B9,hB9⟩:∃B9,wr.heap.size=B9:=⟨_,rfl⟩;have HB9:=Ab hB9;rw[hB9]at HBn⊢;clear hB9;have HS8:Hid (∀wz,Aw wz B9 [.string fn, .slice fad fl fcp, .int .i64 num, .slice na nl nc] 176->wz.cell? ⟨B9,0,none⟩=some (.string fn)/\wz.cell? ⟨B9,1,none⟩=some (.slice fad fl fcp)/\wz.cell? ⟨B9,2,none⟩=some (.int .i64 num)/\wz.cell? ⟨B9,3,none⟩=some (.slice na nl nc)):=by
      intro wz hb;have h0:=hb.cell 0;have h1:=hb.cell 1;have h2:=hb.cell 2;have h3:=hb.cell 3;simp at h0 h1 h2 h3;exact⟨h0,h1,h2,h3⟩
     have HHS:=Ab (Aa HS8 w3.drew (Aa HBn));refine wp_seq_k (λK1 hK1=>?_);have HKk:=Ab hK1;clear hK1;refine CS 6 (λwz=>wz.cell? ⟨B9,0,none⟩=some (.string fn)/\wz.cell? ⟨B9,1,none⟩=some (.slice fad fl fcp)/\wz.cell? ⟨B9,2,none⟩=some (.int .i64 num)/\wz.cell? ⟨B9,3,none⟩=some (.slice na nl nc)) (by kernel_rfl) ?_;refine CF.takeH (i:=0) (v:= .pointer (some ⟨cb,0,none⟩)) rfl (by kernel_rfl) (by kernel_rfl) (by kernel_rfl) (by decide) (λ_ _ _ h=>h) (Aa HHS) (Or.inl ⟨by rfl,?_⟩) ?_
     ·(intro wz hSw;obtain⟨z0,z1,z2,z3⟩:=hSw;go_simp)
     simp only[Act.put,Z3,Z4,Z5];refine CF.takeH (i:=1) (v:= .pointer (some ⟨cb,0,none⟩)) rfl (by kernel_rfl) (by kernel_rfl) (by kernel_rfl) (by decide) (λ_ _ _ h=>h) (Aa HHS) (Or.inl ⟨by rfl,?_⟩) ?_
     ·(intro wz hSw;obtain⟨z0,z1,z2,z3⟩:=hSw;go_simp)
     simp only[Act.put,Z3,Z4,Z5];refine CF.takeH (i:=2) (v:= .pointer (some ⟨cb,1,none⟩)) rfl (by kernel_rfl) (by kernel_rfl) (by kernel_rfl) (by decide) (λ_ _ _ h=>h) (Aa HHS) (Or.inl ⟨by rfl,?_⟩) ?_
     ·(intro wz hSw;obtain⟨z0,z1,z2,z3⟩:=hSw;go_simp)
     simp only[Act.put,Z3,Z4,Z5];refine CF.takeH (i:=3) (v:= .pointer (some ⟨B9,0,none⟩)) rfl (by kernel_rfl) (by kernel_rfl) (by kernel_rfl) (by decide) (λ_ _ _ h=>h) (Aa HHS) (Or.inl ⟨by rfl,?_⟩) ?_
     ·(intro wz hSw;obtain⟨z0,z1,z2,z3⟩:=hSw;go_simp)
     simp only[Act.put,Z3,Z4,Z5];refine CF.takeH (i:=4) (v:= .agg #[.string fn, .slice fad fl fcp]) rfl (by kernel_rfl) (by kernel_rfl) (by kernel_rfl) (by decide) (λ_ _ _ h=>h) (Aa HHS) (Or.inl ⟨by rfl,?_⟩) ?_
     ·(intro wz hSw;obtain⟨z0,z1,z2,z3⟩:=hSw;go_simp)
     simp only[Act.put,Z3,Z4,Z5];refine CF.one (i:=5) (by kernel_rfl) rfl (λK hK=>?_)
     go_simp
     have hkd:Ac [] wr w3.drew:=(Aa HKn).drew;have HAd:=Ab (X2 cb 1 [.slice lad pcs.length lcp, .slice sad fs.length scp, .slice tad SJ.length tcp] 139 sad scp fs ⟨⟨fn,fts⟩, .slice fad fts.length fcp⟩ w3.drew ((Aa HB).kept hkd (by simp)) rfl (by decide) (by decide) ((Aa HPs).kept hkd) ((Aa HPf).kept hkd) (by show fts.length<=1000;have h:=congrArg (λp=>p.things.length) (Aa HFe);simp only[Yc]at h;have:=(Aa HNw).2.2;omega) (by have:=Aa HFsb;omega) ((Aa HSe).mono _));simp only[A9]at HAd;rw[Aa HFl]at HAd;refine(Aa HAd).mono ?_;rintro _ w4 ⟨rfl,hA⟩;have hb9d:Aw w3.drew B9 [.string fn, .slice fad fl fcp, .int .i64 num, .slice na nl nc] 176:=Aa HBn;have hcbd:=(Aa HB).kept hkd (by simp);have hpsd:=(Aa HPs).kept hkd;have hne9:B9∉cb::(Value.slice sad fs.length scp).ownBlock.toList:=by
      intro hm;rcases aj.1 hm with h|h
      ·rw[h]at hb9d;unfold Aw at hb9d hcbd;rw[hcbd]at hb9d;simp at hb9d
      ·exact AO hpsd.row hb9d (by decide) (by simpa using h)
     have hB94:=hb9d.kept hA.kept hne9;refine hK.out _ _ (λ_=>Aa HS8 _ hB94) ?_;clear hK K;refine CF.done (by kernel_rfl) ?_ _
     try simp only[Act.put,Z3,Z4,Z5]
     refine Aa HKk _ _ ?_;clear HKk K1 HHS HAd;obtain⟨p,ad4,cp4,hcut,hcb4,hps4,hown4⟩:=hA.out;simp only[Z5,Z4]at hcb4;have hcut2:Gt fs (CK F) p:=by
      have h:=hcut;simp only at h;rw[Aa HFe]at h;exact h
     have hhit:ED fs ⟨fn,fts⟩ p=false:=by
      rw[Aa HFe,(Aa HSe).hit (Aa HNw).2.1 hcut2];cases hh:Fq SJ F with
      |false=>rfl
      |true=>exact absurd ((CD _ _).1 hh) (Aa HFn).2.2.2
     have HSe4:Hid (Ej (OG fs ⟨⟨fn,fts⟩, .slice fad fl fcp⟩ p) (Bs SJ F)):=by
      have h:=(Aa HSe).add_new (x:=⟨⟨fn,fts⟩, .slice fad fl fcp⟩) (Aa HFe) (Aa HNw).2.1 hcut2 (by rw[<-Aa HFe];exact hhit);unfold OG;simp only[hhit,Z8,if_false];exact h
     (have HLen4:Hid ((Bs SJ F).length=SL+1):=by show _=_;rw[(I6 SJ F).2 (Aa HFn).2.2.2,Aa HSL]);have HPs4:=Ab hps4;have HOw4:Hid (∀q,(Value.slice ad4 (OG fs ⟨⟨fn,fts⟩, .slice fad fl fcp⟩ p).length cp4).ownBlock=some q->w0.heap.size<=q):=by
      intro q hq;rcases hown4 q hq with h|h
      ·exact Aa HLow q h
      ·have h1:w3.heap.size<=q:=h;have h2:=(Aa HC3).kept.size;have h3:=(Aa HKn).size;omega
     have hkM:Ac (cb::(Value.slice sad fs.length scp).ownBlock.toList) wr w4:=((hkd.mono (by simp)).trans hA.kept);have HR4:Hid (FV w w4):=(Aa HR3).trans ((FV.kept hkd).trans (FV.of hA.kept (λq hq=>by
      rcases aj.1 hq with rfl|hq
      ·obtain⟨a,b,c,h1,h2⟩:=UP hcbd
       exact⟨a,b,c,h1,Or.inl h2⟩
      ·obtain⟨a,b,c,h1,h2⟩:=UT hpsd.row (q:=q) (by simpa using hq)
       exact⟨a,b,c,h1,Or.inr (Or.inl h2)⟩)))
     have HK4:Hid (Ac [] w0 w4):=(Aa HC3).kept.trans' hkM (λq hq=>Or.inr (by
      rcases aj.1 hq with rfl|hq
      ·exact(Aa HC3).cb_
      ·exact Aa HLow q (by simpa using hq)))
     have hrap:∀{b e sz n:Nat} {v:Value} {ys:List Value},wr.ownsRow b e sz v n ys->e≠139->e≠104->w4.ownsRow b e sz v n ys:=fun{b e sz n v ys} hr h1 h2=>Ar hr hkM (λq hq hm=>by
      rcases aj.1 hm with rfl|hm
      ·exact AO hr (Aa HB) h1 hq
      ·exact Bt hr (Aa HPs).row h2 q hq (by simpa using hm))
     have hrow4:=hrap (Aa HRow) (by decide) (by decide);rw[Aa HSL]at hrow4;have HRow4:=Ab hrow4;have HNr4:=Ab (hrap (Aa HNr) (by decide) (by decide));(have HNe4:Hid (∀st∈sts,DW w4 st.f/\st.f.f.things.length<=1000/\∃a n c,st.n= .slice a n c):=λst hst=>⟨hrap (v:=st.f.tv) (Aa HNe st hst).1 (by decide) (by decide),(Aa HNe st hst).2⟩);have HB94:=Ab hB94;have HTad:Hid (∀q,(Value.slice tad SL tcp).ownBlock=some q->q<B9/\q∉(Value.slice (some ⟨g,0,none⟩) sts.length ncp).ownBlock.toList):=λq hq=>by
      have h1:=Aa HRow;have h2:=Aa HX;rw[Aa HSL]at h1 h2;have h3:=(h1.lt q hq).2;have h4:=Aa HB9;exact⟨by omega,h2 q hq⟩
     rw[Aa HSL]at hcb4;obtain⟨FL,hFL⟩:∃FL,(OG fs ⟨⟨fn,fts⟩, .slice fad fl fcp⟩ p).length=FL:=⟨_,rfl⟩;have HFL:=Ab hFL;have HCb5:Hid (Aw w4 cb [.slice lad pcs.length lcp, .slice ad4 FL cp4, .slice tad SL tcp] 139):=by
      rw[hFL]at hcb4;exact hcb4
     clear hA hb9d hcbd hpsd hne9 hB94 hkd hcut hcut2 hcb4 hps4 hown4 hhit hkM hrow4 hFL hrap;have HS9:Hid (∀wz,Aw wz B9 [.string fn, .slice fad fl fcp, .int .i64 num, .slice na nl nc] 176->Aw wz cb [.slice lad pcs.length lcp, .slice ad4 FL cp4, .slice tad SL tcp] 139->wz.cell? ⟨cb,2,none⟩=some (.slice tad SL tcp)/\wz.cell? ⟨B9,0,none⟩=some (.string fn)/\wz.cell? ⟨B9,1,none⟩=some (.slice fad fl fcp)/\wz.cell? ⟨B9,2,none⟩=some (.int .i64 num)/\wz.cell? ⟨B9,3,none⟩=some (.slice na nl nc)):=by
      intro wz hb hc;have h0:=hc.cell 2;simp at h0;exact⟨h0,Aa HS8 wz hb⟩
     have HHS:=Ab (Aa HS9 w4.drew (Aa HB94) (Aa HCb5));refine CS 10 (λwz=>wz.cell? ⟨cb,2,none⟩=some (.slice tad SL tcp)/\wz.cell? ⟨B9,0,none⟩=some (.string fn)/\wz.cell? ⟨B9,1,none⟩=some (.slice fad fl fcp)/\wz.cell? ⟨B9,2,none⟩=some (.int .i64 num)/\wz.cell? ⟨B9,3,none⟩=some (.slice na nl nc)) (by kernel_rfl) ?_;refine CF.take (i:=0) (v:= .pointer (some ⟨cb,0,none⟩)) rfl (by kernel_rfl) (by kernel_rfl) (by kernel_rfl) (by kernel_rfl) (λ_ _ _ h=>h) (Aa HHS) (Or.inl ⟨by rfl,?_⟩) ?_
     ·(intro wz hSw;obtain⟨z0,z1,z2,z3,z4⟩:=hSw;go_simp)
     simp only[Act.put,Z3,Z4,Z5];refine CF.take (i:=1) (v:= .pointer (some ⟨cb,0,none⟩)) rfl (by kernel_rfl) (by kernel_rfl) (by kernel_rfl) (by kernel_rfl) (λ_ _ _ h=>h) (Aa HHS) (Or.inl ⟨by rfl,?_⟩) ?_
     ·(intro wz hSw;obtain⟨z0,z1,z2,z3,z4⟩:=hSw;go_simp)
     simp only[Act.put,Z3,Z4,Z5];refine CF.take (i:=2) (v:= .pointer (some ⟨cb,0,none⟩)) rfl (by kernel_rfl) (by kernel_rfl) (by kernel_rfl) (by kernel_rfl) (λ_ _ _ h=>h) (Aa HHS) (Or.inl ⟨by rfl,?_⟩) ?_
     ·(intro wz hSw;obtain⟨z0,z1,z2,z3,z4⟩:=hSw;go_simp)
     simp only[Act.put,Z3,Z4,Z5];refine CF.take (i:=3) (v:= .pointer (some ⟨cb,2,none⟩)) rfl (by kernel_rfl) (by kernel_rfl) (by kernel_rfl) (by kernel_rfl) (λ_ _ _ h=>h) (Aa HHS) (Or.inl ⟨by rfl,?_⟩) ?_
     ·(intro wz hSw;obtain⟨z0,z1,z2,z3,z4⟩:=hSw;go_simp)
     simp only[Act.put,Z3,Z4,Z5];refine CF.take (i:=4) (v:= .slice tad SL tcp) rfl (by kernel_rfl) (by kernel_rfl) (by kernel_rfl) (by kernel_rfl) (λ_ _ _ h=>h) (Aa HHS) (Or.inl ⟨by rfl,?_⟩) ?_
     ·(intro wz hSw;obtain⟨z0,z1,z2,z3,z4⟩:=hSw;go_simp)
     simp only[Act.put,Z3,Z4,Z5];refine CF.take (i:=5) (v:= .agg #[.string fn, .slice fad fl fcp, .int .i64 num, .slice na nl nc]) rfl (by kernel_rfl) (by kernel_rfl) (by kernel_rfl) (by kernel_rfl) (λ_ _ _ h=>h) (Aa HHS) (Or.inl ⟨by rfl,?_⟩) ?_
     ·(intro wz hSw;obtain⟨z0,z1,z2,z3,z4⟩:=hSw;go_simp)
     simp only[Act.put,Z3,Z4,Z5];refine CF.one (i:=6) (by kernel_rfl) rfl (λK hK=>?_)
     go_simp
     have hb9e:Aw (w4.drew.alloc (.cells #[.string fn, .slice fad fl fcp, .int .i64 num, .slice na nl nc] 176)) B9 [.string fn, .slice fad fl fcp, .int .i64 num, .slice na nl nc] 176:=Aw.alloc (w:=w4.drew) (Aa HB94) _;have hcbe:Aw (w4.drew.alloc (.cells #[.string fn, .slice fad fl fcp, .int .i64 num, .slice na nl nc] 176)) cb [.slice lad pcs.length lcp, .slice ad4 FL cp4, .slice tad SL tcp] 139:=Aw.alloc (w:=w4.drew) (Aa HCb5) _;refine hK.out _ _ (λ_=>Aa HS9 _ hb9e hcbe) ?_;clear hK K
     try simp only[Act.put,Z3,Z4,Z5]
     have hrowd:w4.drew.ownsRow w0.heap.size 176 4 (.slice tad SL tcp) SL xs:=Aa HRow4;have hszd:w0.heap.size<=w4.heap.size:=(Aa HK4).size;have hSLb:=Aa HSLb;refine CF.one (i:=7) (by kernel_rfl) rfl (λK hK=>?_);refine dG _ (by rfl) _ _ _ (by rfl) w0.heap.size 176 i0 _ 4 72 underlying137 hi0 hz0 hz1 hz2 rfl (by omega) (.slice tad SL tcp) SL xs (by rfl) (ah hrowd _)
      ⟨w4.drew.heap.size,0,none⟩ 1 1 [.string fn, .slice fad fl fcp, .int .i64 num, .slice na nl nc] (by rfl) (by rfl) (aF (cs:=#[.string fn, .slice fad fl fcp, .int .i64 num, .slice na nl nc]) (t:=176) (fr:=(0,0)) (aS w4.drew _)) (by simp[Value.oneCell'])
      (by omega) (by unfold maxLen;omega) (by omega) (by simp;exact Nat.le_succ_of_le hszd) (w4.heap.size+1) (by simp) ?_
     intro gg cap9 u3 hown3 hgrow hat3 hlt3;have hb9u:=hb9e.grown hgrow (λe=>by have:=(Aa HTad B9 e).1;omega);have hcbu:=hcbe.grown hgrow (AO hrowd (Aa HCb5) (by decide));refine hK.out _ _ (λ_=>Aa HS9 _ hb9u hcbu) ?_;clear hK K
     try simp only[Act.put,Z3,Z4,Z5]
     refine CF.one (i:=8) (by kernel_rfl) rfl (λK hK=>?_)
     go_simp
     refine hK.out _ _ (λ_=>Aa HS9 _ hb9u hcbu) ?_;clear hK K
     try simp only[Act.put,Z3,Z4,Z5]
     refine CF.one (i:=9) (by kernel_rfl) rfl (λK hK=>?_)
     go_simp
     refine hK.out _ _ (λ_=>Aa HS9 _ hb9u hcbu) ?_;clear hK K
     try simp only[Act.put,Z3,Z4,Z5]
     have c10:=hcbu.cell 2;have f10:=hcbu.frozen 2;simp at c10;refine CF.one (i:=10) (by kernel_rfl) rfl (λK hK=>?_)
     go_simp
     refine hK.out _ _ (λh=>absurd rfl h) ?_;clear hK K;refine CF.done (by kernel_rfl) ?_ _
     try simp only[Act.put,Z3,Z4,Z5]
     have hkA:Ac ((Value.slice tad SL tcp).ownBlock.toList) w4 u3:=(((Ac.refl _ w4).drew).alloc (.cells #[.string fn, .slice fad fl fcp, .int .i64 num, .slice na nl nc] 176)).grown hgrow (λq hq=>Or.inl (by rw[hq];simp));have hkC:Ac [cb] u3 (u3.setCell ⟨cb,2,none⟩ (.slice (some ⟨gg,0,none⟩) (SL+1) cap9)):=(Ac.refl [cb] u3).setCell (p:=⟨cb,2,none⟩) (Or.inl (by simp)) _;have hrap5:∀{b e sz n:Nat} {v:Value} {ys:List Value},w4.ownsRow b e sz v n ys->e≠139->(∀q,v.ownBlock=some q->(Value.slice tad SL tcp).ownBlock≠some q)->(u3.setCell ⟨cb,2,none⟩ (.slice (some ⟨gg,0,none⟩) (SL+1) cap9)).ownsRow b e sz v n ys:=fun{b e sz n v ys} hr h1 h2=>by
      have h3:=Ar hr hkA (λq hq hm=>h2 q hq (by simpa using hm));exact Ag h3 (AO h3 hcbu h1) _
     have HC5:Hid (Ft w0 cb (.slice lad pcs.length lcp) (Value.slice (some ⟨g,0,none⟩) sts.length ncp).ownBlock.toList (((GZ r s1).take (j+1)).foldl Bs s1) (u3.setCell ⟨cb,2,none⟩ (.slice (some ⟨gg,0,none⟩) (SL+1) cap9))):=by
      rw[Aa HSj];refine⟨((Aa HK4).trans' hkA (λq hq=>Or.inr ((Aa HRow4).lt q (by simpa using hq)).1)).trans' hkC (λq hq=>Or.inr (by simp only[ae]at hq;rw[hq];exact(Aa HC3).cb_)),(Aa HC3).cb_,ad4,cp4,OG fs ⟨⟨fn,fts⟩, .slice fad fl fcp⟩ p,some ⟨gg,0,none⟩,cap9,xs++[.string fn, .slice fad fl fcp, .int .i64 num, .slice na nl nc],?_,⟨?_,λq hq=>⟨?_,?_⟩⟩,Aa HSe4,?_,Aa HOw4,?_⟩
      ·rw[Aa HLen4,Aa HFL];exact hcbu.set 2 _
      ·exact hrap5 (Aa HPs4).row (by decide) (λq hq=>Bt (Aa HPs4).row (Aa HRow4) (by decide) q hq)
      ·exact hrap5 (v:=q.tv) ((Aa HPs4).each q hq).1 (by decide) (λq' hq'=>Bt (v1:=q.tv) ((Aa HPs4).each q hq).1 (Aa HRow4) (by decide) q' hq')
      ·exact((Aa HPs4).each q hq).2
      ·rw[Aa HLen4];exact Ag hown3 (AO hown3 hcbu (by decide)) _
      ·rw[Aa HLen4];intro q hq;simp only[Value.ownBlock,ai]at hq;subst hq;rcases hat3 with h|h
       ·exact(Aa HTad gg h).2
       ·intro hm;have h1:=((Aa HNr4).lt gg (by simpa using hm)).2;omega
     have HNr5:=Ab (hrap5 (Aa HNr4) (by decide) (λq hq h=>(Aa HTad q h).2 (by rw[hq];simp)));(have HNe5:Hid (∀st∈sts,DW (u3.setCell ⟨cb,2,none⟩ (.slice (some ⟨gg,0,none⟩) (SL+1) cap9)) st.f/\st.f.f.things.length<=1000/\∃a n c,st.n= .slice a n c):=λst hst=>⟨hrap5 (v:=st.f.tv) (Aa HNe4 st hst).1 (by decide) (λq hq=>Bt (v1:=st.f.tv) (Aa HNe4 st hst).1 (Aa HRow4) (by decide) q hq),(Aa HNe4 st hst).2⟩);have HR5:Hid (FV w (u3.setCell ⟨cb,2,none⟩ (.slice (some ⟨gg,0,none⟩) (SL+1) cap9))):=((Aa HR4).trans (FV.of hkA (λq hq=>by
      obtain⟨a,b,c,h1,h2⟩:=UT (Aa HRow4) (q:=q) (by simpa using hq)
      exact⟨a,b,c,h1,Or.inr (Or.inr h2)⟩))).trans (FV.of hkC (λq hq=>by
      simp only[ae]at hq
      rw[hq]
      obtain⟨a,b,c,h1,h2⟩:=UP hcbu
      exact⟨a,b,c,h1,Or.inl h2⟩))
     generalize u3.setCell ⟨cb,2,none⟩ (.slice (some ⟨gg,0,none⟩) (SL+1) cap9)=w6 at HC5 HNr5 HNe5 HR5⊢;clear hown3 hgrow hat3 hlt3 hb9u hcbu hb9e hcbe hrowd c10 f10 hkA hkC hrap5 HHS;refine Aa HK5 _ _ ?_;clear HK5;go_wp2
     go_roundg (sts.length-(j+1))
     case measure=>have:=Aa HG2;omega
     case rel=>exact⟨j+1,by go_num,by omega,rfl,HC5,HNr5,HNe5,HR5⟩
    ·have HC4:Hid (Ft w0 cb (.slice lad pcs.length lcp) [] ((GZ r s1).foldl Bs s1) wr):=by
      have h:=Aa HC3;rw[Z9 (by omega)]at h;obtain⟨sad,scp,fs,tad,tcp,xs,g1,g2,g3,g4,g5,g6⟩:=h.out;exact⟨h.kept,h.cb_,sad,scp,fs,tad,tcp,xs,g1,g2,g3,g4,g5,λq hq=>by simp⟩
     have HJ4:Hid (J ((GZ r s1).foldl Bs s1)):=by
      have h:=(Aa HOk).mid (GZ r s1).length;rw[dv]at h;exact h
     go_wp2_with fail
     go_roundg (ns.length-(k+1))
     case measure=>have:=Aa HG;omega
     case rel=>exact⟨k+1,(GZ r s1).foldl Bs s1,by go_num,by omega,rfl,(Aa HSt).symm,HJ4,HC4,HR3⟩
  ·have HE:Hid (s1=(EU (DM ZG) ds s).1):=by
    have h:=Aa HS1;rw[Z9 (by have:=Aa HDl;omega)]at h;exact h
   obtain⟨sad,scp,fs,tad,tcp,xs,hb,_⟩:=(Aa HC1).out;have c2:=hb.cell 2;simp at c2;obtain⟨S1,hS1⟩:∃S1,s1.length=S1:=⟨_,rfl⟩;rw[hS1]at c2;have HS1l:=Ab hS1;clear hb hS1;go_wp2;go_ret;refine⟨s1,Aa HE,?_,Aa HJ1,Aa HC1,Aa HR1⟩;rw[Aa HS0,Aa HS1l]
   first|rfl|(simp;done)|simp
