import Derived.Test.YtoihbhenbmffcaaGreatDoorYBF
import Derived.Test.YtoihbhenbmffcaaGreatDoorYBL
set_option linter.all false
set_option maxHeartbeats 0
namespace Go.Proofs.YtoihbhenbmffcaaGreatDoor
open Go.RowKit Go.Proofs.Tryz
theorem F2.at{α β:Type}{R:α->β->Prop}:∀{l:List α} {m:List β},F2 R l m->∀k (c:k<l.length) (d:k<m.length),R l[k] m[k]
 |[],[],_,k,c,_=>by simp at c
 |a::l,b::m,h,0,_,_=>h.1
 |a::l,b::m,h,k+1,c,d=>F2.at (l:=l) (m:=m) h.2 k (by simpa using c) (by simpa using d)
theorem DK.put{w':World}{b n:Nat}{L:cR->Nat}{D:DataW Unit}{x:cR}{v:Nat}(d:Maps.IsMap D)(c:∀y,D.atKey (QI y) (.lit (.int .i64 0))=.lit (.int .i64 (L y)))(h:w'.ownsMap prog 9 (plainElem prog 3) b n (D.put (QI x) (.lit (.int .i64 v)))):DK w' b n (Nn L x v):=by
 refine⟨_,h,?_,λy=>?_⟩
 .obtain⟨f,g,_,_,_,e⟩:=h;exact⟨_,e⟩
 .by_cases a:y=x
  .subst a;rw[Gs,Maps.atKey_put_same d (by unfold QI;exact trivial)]
  .rw[Iq _ a,Maps.atKey_put_other (λe=>a (Yo e))];exact c y
theorem DK.mono{w:World}{b n a:Nat}{L:cR->Nat}(h:DK w b n L)(e:n<=a):DK w b a L:=by
 obtain⟨D,d,c⟩:=h.at_;exact⟨D,d.mono e,c⟩
theorem Qa:∀(a:List A7),DM a (λ_=>0)=0
 |[]=>rfl
 |c::a=>by
  have e:DM (c::a) (λ_=>0)=0+DM a (λ_=>0):=by unfold DM;rw[cu,List.sum_cons]
  rw[e,Qa a]
theorem U6(x:cR):(DataW.map []:DataW Unit).atKey (QI x) (.lit (.int .i64 0))=.lit (.int .i64 0):=by
 first|rfl|(unfold QI;rfl)|simp[DataW.atKey]
def aC(rcs:List A7)(gD:cR->Nat)(w:World)(r:Ending)(w':World):Prop:=∃(mb n:Nat) (L:cR->Nat),r=.returned (.map (some mb))/\DK w' mb n L/\DE rcs L/\(∀x,L x<=gD x)/\w.heap.size<=mb/\Ac [] w w'
set_option maxRecDepth 100000
theorem LY(HY:Option Addr)(HU:Nat)(f:List C0)(d:List A7)(w:World)(l:cR->Nat)(hP:C9 w (.slice HY f.length HU) f)(hC:F2 Pj f d)(M0:f.length<=1000)(HW:∀c∈f,c.db.length<=1000)(HB:∀c∈f,c.hn.size<=1000000/\∀p∈c.db,p.1.an.size<=1000000)(hL:DE d l)(HZ:∀x,l x<=1000)(HL:DM d l<=100000):
  Calls prog 166 #[.slice HY f.length HU] w λr w'=>aC d l w r w':=by
 have H0:=Ab hP;have LM:=Ab hC;have H6:=Ab HW;have Ix:=Ab HB;have H2:=Ab hL;have J:=Ab HZ;have K1:=Ab HL;have HA:=Ab hC.length;have Q:Hid (DK (w.alloc (.map #[] 0)) w.heap.size 0 (λ_=>0)):=⟨.map [],World.ownsMap_made w _ _ _,⟨_,rfl⟩,U6⟩;have EX:=Ab ((Ac.refl [] w).alloc (.map #[] 0));have LE:= @run_makeMap prog;obtain⟨n,S⟩:∃n,w.heap.size=n:=⟨_,rfl⟩;have FW:=Ab S;clear hP hC HW HB hL HZ HL;go_enter func166,ntmps166;go_wp2_with fail
 generalize hw1:w.alloc (.map #[] 0)=w1 at Q EX⊢;clear hw1 LE;rw[S]at Q
 try rw[S]
 clear S
 go_loopg [4] (DM d l+2) (λgk rv wr=>∃(R:Bool) (L:cR->Nat),rv=.bool R/\gk=(if R then DM d l-DM d L+2 else 1)/\Hid (DK wr n (DM d L) L)/\Hid (∀x,L x<=l x)/\Hid (R=false->DE d L)/\Hid (Ac [] w wr))
 case atStart=>
  refine⟨true,λ_=>0,rfl,?_,(Aa Q).mono (b8 _),λx=>b8 _,λh=>(by cases h),EX⟩;rw[if_pos rfl,Qa,Nat.sub_zero]
 case round=>
  clear Q EX;obtain⟨R,L,rfl,HX,u,AB,LL,s⟩:=hrel;have HG:=Ab HX;clear HX;cases R with
  |false=>
   have H7:=Ab (Aa LL rfl);go_wp2;go_ret;exact⟨n,_,L,rfl,Aa u,Aa H7,Aa AB,by have:=Aa FW;omega,Aa s⟩
  |true=>
   go_wp2_with fail
   go_loopg [4,12] f.length (λMY rv i wq=>∃(k:Nat) (m:Bool) (a:cR->Nat),rv=.bool m/\i=.int .i64 k/\k<=f.length/\MY=f.length-k/\Hid ((d.take k).foldl DU (L,false)=(a,m))/\Hid (DK wq n (DM d a) a)/\Hid (Ac [] w wq))
   case atStart=>exact⟨0,false,L,rfl,rfl,by omega,rfl,rfl,u,s⟩
   case round=>
    clear u s;obtain⟨k,m,a,rfl,rfl,hk,HH,U,u,s⟩:=hrel;have HP:=Ab HH;clear HH;have FP:Hid ((∀x,a x<=l x)/\DM d a<=DM d l):=by
     have h:=IJ (Aa H2) (d.take k) L false (λc hc=>d9 hc) (Aa AB);rw[Aa U]at h;exact⟨h.2.1,Vn h.2.1⟩
    by_cases Y:k<f.length
    ·(have AO:k<d.length:=by have:=Aa HA;omega);have P:=(Aa LM).at k Y AO;obtain⟨g,M6,hp,e,EY,FO,T,N,M,o,he,HE,d0,d1,d2,d3⟩:=F5 ((Aa H0).kept (Aa s)) k Y;simp only[bK]at he;obtain⟨rfl,-,rfl⟩:=he;have K:f[k]∈f:=bL Y;have CL:=(Aa H0).each _ K;have AT:=Aa H6 _ K;have G:=Aa Ix _ K;rw[HE]at P CL AT G;have ES:=Ab ((Aa s).alloc (.cells #[.int .i64 hp,.string e,.slice FO EY.length T,.slice N o.length M] 189));have FF:=Ab ((Aa u).gI ((Ac.refl [] wr).alloc (.cells #[.int .i64 hp,.string e,.slice FO EY.length T,.slice N o.length M] 189)) (by simp));have HF:=Ab (AE.new wr [.int .i64 hp,.string e,.slice FO EY.length T,.slice N o.length M] 189);have z:=Aa FP;have Z:=Ab (NC n (DM d a) a N M o _ (Aa FF) (CL.body.kept (Aa ES) (by simp)) AT (λx=>by have:=z.1 x;have:=Aa J x;omega) G.2);have Bx:Gv a 0 (o.map Prod.fst)=Gb a (Am d[k]):=by
      have t:=F2.fst P.lits;simp only at t;rw[t,N6];rfl
     have C:e=d[k].head.name:=P.hn;have H1:Hid ((d.take (k+1)).foldl DU (L,false)=DU (a,m) d[k]):=by
      show _=_;rw[bM AO,cY,Aa U];rfl
     have CC:Hid (DU (a,m) d[k]=if a e<Gv a 0 (o.map Prod.fst)then(Nn a e (Gv a 0 (o.map Prod.fst)),true)else(a,m)):=by
      show _=_;unfold DU;rw[Bx,C]
     have K8:Hid (∀v,a e<v->DM d a+1<=DM d (Nn a e v)):=by
      intro v hv;refine Zl (λx=>?_) (bL AO) ?_
      .by_cases W:x=e
       .rw[W,Gs];omega
       .rw[Iq _ W];exact bZ _
      .rw[<-C,Gs];exact hv
     have B9:=Vp G.1;have I:=z.1 e;have KD:=Aa J e;(have M3:Hid (a e<=1000):=by show a e<=1000;omega);(have K7:Hid (DM d a<=100000):=by have:=z.2;have:=Aa K1;show DM d a<=100000;omega);have HN:Hid (Gv a 0 (o.map Prod.fst)<=100000):=by
      have h:=L9 (L:=a) (b:=2000) (Am d[k]) 0 (by omega) (λx W=>⟨λ_=>by have:=z.1 x.A.name;have:=Aa J x.A.name;omega,λ_=>by have:=z.1 x.A.name;have:=Aa J x.A.name;omega⟩);rw[Bx];have t:Gb a (Am d[k])<=2000:=h;show Gb a (Am d[k])<=100000;omega
     clear P CL AT G K HE z Bx C I KD;obtain⟨j,H3⟩:∃j,Gv a 0 (o.map Prod.fst)=j:=⟨_,rfl⟩;rw[H3]at Z CC HN;clear H3 s u FP;(go_wp2_with fail);refine(Aa Z).mono ?_;rintro _ w3 ⟨rfl,O⟩;have HV:=Ab ((Aa ES).trans O);have Ax:=(Aa FF).gI O (by simp);have MN:=Ab Ax;have X:=(Aa HF).kept O (by simp);have e0:=X.cell 0;have e1:=X.cell 1;simp at e0 e1;obtain⟨D,FA,HR,hD⟩:=Ax.at_;have K5:=Ab HR;have HD:=Ab hD;obtain⟨y,I⟩:∃y,a e=y:=⟨_,rfl⟩;have E:=Ab I;clear Ax X HF FF ES Z O d0 d1 d2 d3 HR hD I;by_cases Go:y<j
     ·(have LB:(y:Int)<(j:Int):=by omega);have Mo:plainElem (H:=Unit) prog 3 (.int .i64 (j:Int))=some (.lit (.int .i64 (j:Int)),[]):=plainElem_int underlying3 (by
       have:=Aa HN
       simp[Lit.wf,IntKind.min,IntKind.max,IntKind.signed,IntKind.bits]
       omega)
      (have C:DM d a<maxLen:=by have:=Aa K7;unfold maxLen;omega);clear Go;go_wp2_with (first
       |(at_lookup;refine wpList_lookup_own_int _ rfl _ _ 269 rfl 9 3 .i64 (Maps.string_keyed underlying9) underlying269 underlying3 (zeroValue3 _) n (DM d a) D rfl FA _ _ rfl B9 ?_;intro c F EK;obtain rfl:c=(y:Int):=(by have h:=F.symm.trans (Aa HD e);rw[Aa E]at h;simpa using h);clear F EK)
       |(at_mapUpdate;refine wpList_mapUpdate_own _ rfl _ _ _ 269 rfl 9 3 (Maps.string_keyed underlying9) underlying269 _ n (DM d a) D rfl FA C _ _ (QI e) rfl rfl B9 _ [] Mo ?_;intro w4 Jx H9))
      have K2:Hid (DK w4 n (DM d (Nn a e j)) (Nn a e j)):=(DK.put (Aa K5) (Aa HD) Jx).mono (Aa K8 j (by have:=Aa E;omega));have LS:Hid (Ac [] w w4):=(Aa HV).grown H9 (λq hq=>Or.inr (by simp only[bR]at hq;have:=Aa FW;omega));have BT:Hid ((d.take (k+1)).foldl DU (L,false)=(Nn a e j,true)):=by show _=_;rw[Aa H1,Aa CC,if_pos (by have:=Aa E;omega)]
      go_roundg (f.length-(k+1))
      case measure=>have:=Aa HP;omega
      case rel=>exact⟨k+1,true,Nn a e j,rfl,by go_num,by omega,rfl,BT,K2,LS⟩
     ·(have LB:¬(y:Int)<(j:Int):=by omega);(have BT:Hid ((d.take (k+1)).foldl DU (L,false)=(a,m)):=by show _=_;rw[Aa H1,Aa CC,if_neg (by have:=Aa E;omega)]);clear Go;go_wp2_with (at_lookup;refine wpList_lookup_own_int _ rfl _ _ 269 rfl 9 3 .i64 (Maps.string_keyed underlying9) underlying269 underlying3 (zeroValue3 _) n (DM d a) D rfl FA _ _ rfl B9 ?_;intro c F EK;obtain rfl:c=(y:Int):=(by have h:=F.symm.trans (Aa HD e);rw[Aa E]at h;simpa using h);clear F EK)
      go_roundg (f.length-(k+1))
      case measure=>have:=Aa HP;omega
      case rel=>exact⟨k+1,m,a,rfl,by go_num,by omega,rfl,BT,MN,HV⟩
    .have HI:Hid (Kc d L=(a,m)):=by
      have h:=Aa U;rw[bP (by have:=Aa HA;omega)]at h;exact h
     have HC:=Ab (UM (Aa H2) (Aa AB));go_wp2_with fail
     go_roundg (if m then DM d l-DM d a+2 else 1)
     case measure=>
      have B:=Aa HC;rw[Aa HI]at B;have t:=Aa HG;simp only[if_true]at t;cases m with
      |true=>
       have V:=B.2.2.1 rfl;have h4:=B.2.2.2;simp only at V h4;simp only[if_true];omega
      |false=>
       simp only[bN,if_false];omega
     case rel=>
      refine⟨m,a,rfl,rfl,u,λx=>(Aa FP).1 x,λhm=>?_,s⟩;have B:=(Aa HC).2.1;rw[Aa HI]at B;obtain⟨t,V⟩:=B hm;simp only at t;rw[t];exact V
theorem Tryz.zU:(Tryz.prog.info? 221).map (λi=>(i.zero,i.size,i.bytes))=some (some (.slice none 0 0),1,24):=by kernel_rfl
abbrev Ns:=List Nat×Value
structure Dx(w:World)(base:Nat)(pv:Value)(ps:List Ns):Prop where
 row:w.ownsRow base 221 1 pv ps.length (ps.flatMap λp=>[p.2])
 each:∀p∈ps,w.ownsRow base 3 1 p.2 p.1.length (p.1.flatMap BM)
 apart:ps.Pairwise λa b=>∀q,a.2.ownBlock=some q->b.2.ownBlock≠some q
theorem Dx.kept{w w':World}{base:Nat}{b:Value}{a:List Ns}(h:Dx w base b a)(k:Ac [] w w'):Dx w' base b a:=⟨Ad h.row k (by simp),λp c=>Ad (h.each p c) k (by simp),h.apart⟩
theorem WS{w w':World}{v:Value}{base d n m:Nat}{l:List Value}{a:Value}{c:List Value}(h:w.ownsRow base 3 1 v n l)(b:w.ownsRow d 221 1 a m c)(f:w.grownBy w' a.ownBlock):w'.ownsRow base 3 1 v n l:=
 dB h f (by
  cases hp:v.ownBlock with
  |none=>exact Or.inl rfl
  |some q=>exact Or.inr (λe=>BB h b (by decide) q hp e.symm))
theorem Qg{w:World}{base:Nat}{l:Value}{a:List Ns}(h:Dx w base l a)(k:Nat)(i:k<a.length):∃g j f b,l=.slice (some ⟨g,0,none⟩) a.length j/\a[k].2=.slice f a[k].1.length b/\w.cell? ⟨g,k,none⟩=some (.slice f a[k].1.length b):=by
 obtain⟨g,j,m,_,n⟩:=Av h.row (λc _=>rfl) k i;have d:=n k i 0 (by omega);obtain⟨f,b,e⟩:=Aj (h.each _ (bL i));simp[e]at d;exact⟨g,j,f,b,m,e,d⟩
structure G9(f:Nat->Nat)(k:Nat)(ps:List Ns):Prop where
 lists:∀j (hj:j<ps.length),ps[j].1=(List.range k).filter λi=>f i==j
 top:∀i,i<k->f i<ps.length
 len:ps.length<=1001
theorem G9.more{f:Nat->Nat}{k:Nat}{a:List Ns}(h:G9 f k a)(l:a.length<=1000)(v:Value):G9 f k (a++[([],v)]):=by
 refine⟨λj d=>?_,λi b=>by have:=h.top i b;simp;omega,by simp;omega⟩;by_cases c:j<a.length
 .rw[List.getElem_append_left c];exact h.lists j c
 .have e:j=a.length:=by simp at d;omega
  subst e;rw[List.getElem_append_right (bZ _)];simp only[Nat.sub_self,fG]
  symm
  rw[fH];intro i b g;have m:=h.top i (List.mem_range.1 b);have:f i=a.length:=by simpa using g
  omega
theorem G9.put{f:Nat->Nat}{k:Nat}{a:List Ns}(h:G9 f k a)(b:f k<a.length)(v:Value):G9 f (k+1) (a.set (f k) (a[f k].1++[k],v)):=by
 refine⟨λj c=>?_,λi l=>?_,by rw[dX];exact h.len⟩
 .have d:j<a.length:=by rw[dX]at c;exact c
  rw[List.range_succ,dZ,List.getElem_set];split
  .rename_i e;subst e;simp only;rw[h.lists _ b]
   congr 1
   simp
  .rename_i e;rw[h.lists j d];(have:([k].filter λi=>f i==j)=[]:=by simp;exact e);rw[this,cK]
 .rw[dX];by_cases g:i=k
  .rw[g];exact b
  .exact h.top i (by omega)
theorem WZ(b:List Ns)(j:Nat)(x:Ns):(b.set j x).flatMap (λp=>[p.2])=(b.flatMap λp=>[p.2]).set j x.2:=by
 have e:∀l:List Ns,l.flatMap (λp=>[p.2])=l.map λp=>p.2:=λl=>by
  induction l with
  |nil=>rfl
  |cons a l ih=>simp[ih]
 rw[e,e,gd]
theorem Dx.put{w o w':World}{base:Nat}{g cap:Nat}{c:List Ns}{j:Nat}(r:j<c.length){x:Ns}(h:Dx w base (.slice (some ⟨g,0,none⟩) c.length cap) c)(C:w.grownBy o c[j].2.ownBlock)(I:o.ownsRow base 3 1 x.2 x.1.length (x.1.flatMap BM))(B:∀q,x.2.ownBlock=some q->c[j].2.ownBlock=some q\/w.heap.size<=q)
  (A:w'=o.setCell ⟨g,j,none⟩ x.2):Dx w' base (.slice (some ⟨g,0,none⟩) c.length cap) (c.set j x):=by
 have J:=h.each _ (bL r);have D:o.ownsRow base 221 1 (.slice (some ⟨g,0,none⟩) c.length cap) c.length (c.flatMap λp=>[p.2]):=dB h.row C (Or.inr (λe=>BB h.row J (by decide) g rfl e.symm));have G:∀i (f:i<c.length),i≠j->o.ownsRow base 3 1 c[i].2 c[i].1.length (c[i].1.flatMap BM):=λi f F=>dB (h.each _ (bL f)) C (by
  cases s:c[i].2.ownBlock with
  |none=>exact Or.inl rfl
  |some q=>
   refine Or.inr (λe=>?_)
   have l:=dH.1 h.apart
   rcases Nat.lt_or_gt_of_ne F with d|d
   .exact l i j f r d q s e.symm
   .exact l j i r f d q e.symm s)
 have E:∀{v:Value} {n:Nat} {z:List Value},o.ownsRow base 3 1 v n z->w'.ownsRow base 3 1 v n z:=fun{v n z} hv=>by
  rw[A];exact Ag hv (λe=>BB hv D (by decide) g e rfl) _
 refine⟨?_,λp s=>?_,?_⟩
 .rw[dX,WZ,A];exact Ds D j x.2
 .obtain⟨i,f,rfl⟩:=cN s;rw[dX]at f;rw[List.getElem_set];split
  .exact E I
  .rename_i e;exact E (G i f (λH=>e H.symm))
 .have l:=dH.1 h.apart;refine dH.2 (λa b u t y q m k=>?_);rw[dX]at u t;rw[List.getElem_set]at m k;split at m
  .rename_i e;subst e;rw[if_neg (by omega)]at k;rcases B q m with d|d
   .exact l j b r t y q d k
   .have:=((h.each _ (bL t)).lt q k).2;omega
  .split at k
   .rename_i e;subst e;rcases B q k with d|d
    .exact l a j u r y q m d
    .have:=((h.each _ (bL u)).lt q m).2;omega
   .exact l a b u t y q m k
def Ge(pcs:List C0)(i:Nat):cR:=((pcs[i]?).map C0.hn).getD ByteArray.empty
def V8(pcs:List C0)(rcs:List A7)(gD:cR->Nat)(w:World)(r:Ending)(w':World):Prop:=∃(ad:Option Addr) (cp:Nat) (ps:List Ns) (L:cR->Nat),r=.returned (.slice ad ps.length cp)/\Dx w' w.heap.size (.slice ad ps.length cp) ps/\G9 (λi=>L (Ge pcs i)) pcs.length ps/\DE rcs L/\(∀x,L x<=gD x)/\Ac [] w w'
theorem UN(HN:Option Addr)(HI:Nat)(m:List C0)(T:List A7)(w:World)(U:cR->Nat)(hP:C9 w (.slice HN m.length HI) m)(hC:F2 Pj m T)(K6:m.length<=1000)(Jx:∀c∈m,c.db.length<=1000)(FF:∀c∈m,c.hn.size<=1000000/\∀p∈c.db,p.1.an.size<=1000000)(hL:DE T U)(HO:∀x,U x<=1000)(H2:DM T U<=100000):
  Calls prog 123 #[.slice HN m.length HI] w λr w'=>V8 m T U w r w':=by
 obtain⟨i0,N4,LS,Pl,NV⟩:=cU Tryz.zU;obtain⟨j0,LB,N2,K3,L0⟩:=cU Tryz.zE;have QR:=Ab hP;have K9:=Ab FF;have MN:=Ab HO;have H4:=Ab (LY HN HI m T w U hP hC K6 Jx FF hL HO H2);obtain⟨z,H6⟩:∃z,w.heap.size=z:=⟨_,rfl⟩;have R:=Ab H6;clear hP hC Jx FF hL HO H2 H6;go_enter func123,ntmps123;go_wp2_with fail
 refine(Aa H4).mono ?_;rintro _ w1 ⟨H,n,L,rfl,hM,Ix,K1,PT,k1⟩;have KS:=Ab hM;have K5:=Ab Ix;have HY:=Ab K1;have HR:=Ab k1;have RB:Hid (z<=H):=by have:=Aa R;show z<=H;omega
 clear H4 hM Ix K1 PT k1;go_wp2_with fail
 go_loopg [4,12] m.length (λgk pv i wr=>∃(k:Nat) (f:List Ns) (E:Option Addr) (y:Nat),pv=.slice E f.length y/\i=.int .i64 k/\k<=m.length/\gk=m.length-k/\Hid (G9 (λi=>L (Ge m i)) k f)/\Hid (Dx wr z (.slice E f.length y) f)/\Hid (DK wr H n L)/\Hid (Ac [] w wr))
 case atStart=>exact⟨0,[],none,0,rfl,rfl,by omega,rfl,⟨λj hj=>by simp at hj,λi hi=>by omega,by simp⟩,⟨ck _ _ _ _,λp K=>by simp at K,List.Pairwise.nil⟩,KS,HR⟩
 case round=>
  clear KS HR;obtain⟨k,f,E,y,rfl,rfl,hk,KD,P,F,N,J⟩:=hrel;have HG:=Ab KD;clear KD;by_cases FP:k<m.length
  .obtain⟨g,OH,K,I,CC,EK,AO,BT,Bx,AT,Y,FO,d0,d1,d2,d3⟩:=F5 ((Aa QR).kept (Aa J)) k FP;simp only[bK]at Y;obtain⟨rfl,-,rfl⟩:=Y;have EY:=(Aa K9 _ (bL FP)).1;rw[FO]at EY;have H5:=Vp EY;have NL:Hid (Ge m k=I):=by
    show _=_;unfold Ge;rw[bW FP,FO];rfl
   (have M6:L I<=1000:=by have:=Aa HY I;have:=Aa MN I;omega);have HC:=Ab ((Aa J).alloc (.cells #[.int .i64 K,.string I,.slice EK CC.length AO,.slice BT AT.length Bx] 189));have FA:=(Aa N).gI ((Ac.refl [] wr).alloc (.cells #[.int .i64 K,.string I,.slice EK CC.length AO,.slice BT AT.length Bx] 189)) (by simp);have HL:=Ab FA;have Ax:=Ab ((Aa F).kept ((Ac.refl [] wr).alloc (.cells #[.int .i64 K,.string I,.slice EK CC.length AO,.slice BT AT.length Bx] 189)));obtain⟨D,H9,NY,hD⟩:=FA.at_;have HD:=Ab (hD I);obtain⟨l,HB⟩:∃l,L I=l:=⟨_,rfl⟩;rw[HB]at HD M6;(have LE:Hid (L (Ge m k)=l):=by show _=_;rw[Aa NL];exact HB);clear FA NY hD EY FO HB F N J;go_wp2_with (at_lookup;refine wpList_lookup_own_int _ rfl _ _ 269 rfl 9 3 .i64 (Maps.string_keyed underlying9) underlying269 underlying3 (zeroValue3 _) H n D rfl H9 _ _ rfl H5 ?_;intro c JJ NX;obtain rfl:c=(l:Int):=(by have h:=JJ.symm.trans (Aa HD);simpa using h);clear JJ NX)
   clear H9 HD H5 d0 d1 d2 d3;generalize wr.alloc (.cells #[.int .i64 K,.string I,.slice EK CC.length AO,.slice BT AT.length Bx] 189)=wa at HC HL Ax⊢
   go_loopg [4] (l+2-f.length) (λP0 pv wq=>∃(f:List Ns) (E:Option Addr) (y:Nat),pv=.slice E f.length y/\P0=l+2-f.length/\Hid (G9 (λi=>L (Ge m i)) k f)/\Hid (Dx wq z (.slice E f.length y) f)/\Hid (DK wq H n L)/\Hid (Ac [] w wq))
   case atStart=>exact⟨f,E,y,rfl,rfl,P,Ax,HL,HC⟩
   case round=>
    clear P Ax HL HC;obtain⟨f,E,y,rfl,KK,P,F,N,J⟩:=hrel;have NS:=Ab KK;clear KK;(have SB:z<=wr.heap.size:=by have:=(Aa J).size;have:=Aa R;omega);by_cases RO:f.length<=l
    ·(have M3:(f.length:Int)<=(l:Int):=by omega);have v:=(Aa F).row;go_wp2_with (at_builtin;refine cd _ rfl (.tmp 26) (.tmp 27) _ rfl z 221 i0 _ 1 24 underlying219 N4 LS Pl NV rfl (by omega) (.slice E f.length y) f.length (f.flatMap λp=>[p.2]) rfl (bQ v _) ⟨wr.heap.size,0,none⟩ 1 1 [.slice none 0 0] rfl rfl (cj (cs:=#[.slice none 0 0]) (t:=221) (fr:=(0,0)) (cA wr _)) (by simp[Value.oneCell']) (by omega) (by unfold maxLen;omega) (by omega) (by simp;omega) (wr.heap.size+1) (by simp) ?_;intro G C u W A AH FL)
     have BA:=Ab ((Aa P).more (by omega) (.slice none 0 0));have V:Hid (Dx u z (.slice (some ⟨G,0,none⟩) (f++[([],Value.slice none 0 0)]).length C) (f++[([],Value.slice none 0 0)])):=by
      refine⟨?_,λp K=>?_,?_⟩
      .rw[cw];simp only[cc,bU,cE,cV,cg,cZ,cK];exact W
      .rcases bY.1 K with h|h
       .exact WS (bQ ((Aa F).each p h) _) (bQ v _) A
       .simp only[bO]at h;subst h;exact ck _ _ _ _
      .rw[fp];refine⟨(Aa F).apart,by simp,λa ha b B q _ s=>?_⟩;simp only[bO]at B;subst B;simp[Value.ownBlock]at s
     have HP:Ac [] w u:=((Aa J).alloc (.cells #[.slice none 0 0] 221)).grown A (λq s=>Or.inr (by have:=(v.lt q s).1;have:=Aa R;omega));have ES:Hid (DK u H n L):=by
      have CL:=(Aa N).gI ((Ac.refl [] wr).alloc (.cells #[.slice none 0 0] 221)) (by simp);refine CL.gI (M:=(Value.slice E f.length y).ownBlock.toList) ((Ac.refl _ _).grown A (λq s=>Or.inl (by rw[s];simp))) (λQ=>?_);obtain⟨D,⟨es,HU,B,_⟩,_⟩:=CL.at_;rcases(bQ v (.cells #[.slice none 0 0] 221)).2 with⟨e,_⟩|⟨g',c',HT,e,_,X,_⟩
      .rw[e]at Q;simp[Value.ownBlock]at Q
      .rw[e]at Q;simp[Value.ownBlock]at Q;subst Q;rw[X]at B;cases B
     have B9:=Ab HP;clear W A AH FL v HP
     go_roundg (l+2-(f.length+1))
     case measure=>have:=Aa NS;omega
     case rel=>exact⟨f++[([],Value.slice none 0 0)],some ⟨G,0,none⟩,C,by simp,by simp,BA,V,ES,B9⟩
    ·(have M3:¬(f.length:Int)<=(l:Int):=by omega);(have O:l<f.length:=by omega);(have RT:(0:Int)<=(l:Int):=by omega);(have RV:(l:Int)<(f.length:Int):=by omega);obtain⟨g,OH,S,AB,Y,hv,HZ⟩:=Qg (Aa F) l O;simp only[bK]at Y;obtain⟨rfl,-,rfl⟩:=Y;have v:=(Aa F).each _ (bL O);rw[hv]at v;have HV:=Ab hv;have N0:f[l].1.length<=1000:=by
      rw[(Aa P).lists l O];have:=dw (λi=>L (Ge m i)==l) (List.range k);rw[List.length_range]at this;omega
     obtain⟨o,HJ⟩:∃o,f[l].1=o:=⟨_,rfl⟩;have Os:=Ab HJ;rw[HJ]at v N0 HZ HV;clear HJ hv;have Z:=(Aa F).row;have Ax:=Ab ((Aa F).kept ((Ac.refl [] wr).alloc (.cells #[.int .i64 k] 3)));have M2:Hid (∀u:World,(wr.alloc (.cells #[.int .i64 k] 3)).grownBy u (Value.slice S o.length AB).ownBlock->u.ownsRow z 221 1 (.slice (some ⟨g,0,none⟩) f.length y) f.length (f.flatMap λp=>[p.2])/\u.frozen? ⟨g,l,none⟩=false/\u.cell? ⟨g,l,none⟩=some (.slice S o.length AB)):=by
      intro u A;have HE:u.ownsRow z 221 1 (.slice (some ⟨g,0,none⟩) f.length y) f.length (f.flatMap λp=>[p.2]):=dB (bQ Z (.cells #[.int .i64 k] 3)) A (Or.inr (λe=>BB Z v (by decide) g rfl e.symm));obtain⟨g',RE,HS,_,Mo⟩:=Av HE (λc _=>rfl) l O;simp only[bK,bR,cI]at HS;obtain⟨⟨rfl,-,-⟩,-,-⟩:=HS;have d:=Mo l O 0 (by omega);simp[Aa HV]at d;exact⟨HE,HE.frozenAt l,d⟩
     go_wp2_with (at_builtin;refine cd _ rfl (.tmp 34) (.tmp 36) _ rfl z 3 j0 _ 1 8 underlying221 LB N2 K3 L0 rfl (by omega) (.slice S o.length AB) o.length (o.flatMap BM) rfl (bQ v _) ⟨wr.heap.size,0,none⟩ 1 1 [.int .i64 k] rfl rfl (cj (cs:=#[.int .i64 k]) (t:=3) (fr:=(0,0)) (cA wr _)) (by simp[Value.oneCell']) (by omega) (by unfold maxLen;omega) (by omega) (by simp;omega) (wr.heap.size+1) (by simp) ?_;intro G C u W A AH FL;have n9:=Aa M2 u A;have f9:=n9.2.1;have c9:=n9.2.2;clear n9)
     have hx:u.ownsRow z 3 1 (.slice (some ⟨G,0,none⟩) (o++[k]).length C) (o++[k]).length ((o++[k]).flatMap BM):=by
      rw[cw];simp only[cc,bU,cE,cV,cg,cZ,cK];exact W
     have V:=Ab (Dx.put (x:=(o++[k],Value.slice (some ⟨G,0,none⟩) (o++[k]).length C)) O (Aa Ax) (by rw[Aa HV];exact A) hx (λq s=>by
      simp only[Value.ownBlock,bR]at s
      subst s
      rw[Aa HV]
      rcases AH with h|h
      .exact Or.inl h
      .exact Or.inr (by simp;omega)) rfl)
     have BA:Hid (G9 (λi=>L (Ge m i)) (k+1) (f.set l (o++[k],Value.slice (some ⟨G,0,none⟩) (o++[k]).length C))):=by
      have hf:=Aa LE;have h:=(Aa P).put (by simp only[hf];exact O) (.slice (some ⟨G,0,none⟩) (o++[k]).length C);simp only[hf]at h;rw[Aa Os]at h;exact h
     have K8:=bQ v (.cells #[.int .i64 k] 3);have HX:∀q,(Value.slice S o.length AB).ownBlock=some q->q≠H:=by
      intro q s e;subst e;obtain⟨D,⟨es,HU,B,_⟩,_⟩:=(Aa N).at_;rcases v.2 with⟨e,_⟩|⟨g',c',HT,e,_,X,_⟩
      .rw[e]at s;simp[Value.ownBlock]at s
      .rw[e]at s;simp[Value.ownBlock]at s;subst s;rw[X]at B;cases B
     have Nx:g≠H:=by
      intro e;subst e;obtain⟨D,⟨es,HU,B,_⟩,_⟩:=(Aa N).at_;rcases Z.2 with⟨e,_⟩|⟨g',c',HT,e,_,X,_⟩
      .cases e
      .simp only[bK,bR,cI]at e;obtain⟨⟨rfl,-,-⟩,-,-⟩:=e;rw[X]at B;cases B
     have ES:Hid (DK (u.setCell ⟨g,l,none⟩ (.slice (some ⟨G,0,none⟩) (o.length+1) C)) H n L):=by
      have CL:=(Aa N).gI ((Ac.refl [] wr).alloc (.cells #[.int .i64 k] 3)) (by simp);have M0:=CL.gI (M:=(Value.slice S o.length AB).ownBlock.toList) ((Ac.refl _ _).grown A (λq s=>Or.inl (by rw[s];simp))) (λQ=>HX H (by simpa using Q) rfl);exact M0.gI (M:=[g]) ((Ac.refl [g] u).setCell (p:=⟨g,l,none⟩) (Or.inl (by simp)) _) (by simp;exact λe=>Nx e.symm)
     have B9:=Ab ((((Aa J).alloc (.cells #[.int .i64 k] 3)).grown A (λq s=>Or.inr (by have:=(v.lt q s).1;have:=Aa R;omega))).setCell (p:=⟨g,l,none⟩) (Or.inr (by have:=(Z.lt g rfl).1;have:=Aa R;simp;omega)) (.slice (some ⟨G,0,none⟩) (o.length+1) C));simp only[cc,bU,cE,cV]at V BA;generalize u.setCell ⟨g,l,none⟩ (.slice (some ⟨G,0,none⟩) (o.length+1) C)=wz at V ES B9⊢;clear W A AH FL v Z f9 c9 hx K8 HX HZ;go_wp2
     go_roundg (m.length-(k+1))
     case measure=>have:=Aa HG;omega
     case rel=>exact⟨k+1,f.set l (o++[k],Value.slice (some ⟨G,0,none⟩) (o.length+1) C),some ⟨g,0,none⟩,y,by simp,by go_num,by omega,rfl,BA,by rw[dX];exact Aa V,ES,B9⟩
  .have MY:Hid (G9 (λi=>L (Ge m i)) m.length f):=by
    (have e:k=m.length:=by omega);have h:=Aa P;rw[e]at h;exact h
   go_wp2;go_ret;exact⟨E,y,f,L,rfl,by rw[Aa R];exact Aa F,Aa MY,Aa K5,Aa HY,Aa J⟩
structure Gg(w w':World):Prop where
 size:w.heap.size<=w'.heap.size
 at_:∀(q:Nat) (cs:Array Value) (t:TypeId) (fr:Nat×Nat),w.heap[q]?=some (Obj.cells cs t fr)->t≠139->t≠104->t≠176->w'.heap[q]?=some (Obj.cells cs t fr)
theorem Gg.refl(w:World):Gg w w:=⟨bZ _,λ_ _ _ _ h _ _ _=>h⟩
theorem Gg.trans{a b c:World}(h:Gg a b)(k:Gg b c):Gg a c:=⟨da h.size k.size,λq e t i j f d g=>k.at_ q e t i (h.at_ q e t i j f d g) f d g⟩
theorem Gg.of{M:List Nat}{w w':World}(k:Ac M w w')(g:∀q∈M,∃(c:Array Value) (t:TypeId) (d:Nat×Nat),w.heap[q]?=some (Obj.cells c t d)/\(t=139\/t=104\/t=176)):Gg w w':=by
 refine⟨k.size,λq c t d a i f l=>?_⟩;rw[k.block q (cS.1 a).1 (λe=>?_)]
 .exact a
 .obtain⟨m,n,o,b,j⟩:=g q e;rw[a]at b;simp only[bR,Obj.cells.injEq]at b;obtain⟨_,rfl,_⟩:=b;rcases j with h|h|h
  .exact i h
  .exact f h
  .exact l h
theorem Gg.kept{w w':World}(k:Ac [] w w'):Gg w w':=Gg.of k (λq a=>by simp at a)
theorem Gg.row{w w':World}(h:Gg w w'){base e a n:Nat}{v:Value}{d:List Value}(b:w.ownsRow base e a v n d)(k:e≠139)(j:e≠104)(p:e≠176):w'.ownsRow base e a v n d:=by
 refine⟨b.1,?_⟩;rcases b.2 with l|⟨g,c,f,rfl,o,r,s,i,q,m⟩
 .exact Or.inl l
 .exact Or.inr ⟨g,c,f,rfl,o,h.at_ _ _ _ _ r k j p,s,i,q,m⟩
theorem VP{w:World}{b:Nat}{cs:List Value}{t:TypeId}(h:AE w b cs t):∃(c:Array Value) (a:TypeId) (d:Nat×Nat),w.heap[b]?=some (Obj.cells c a d)/\a=t:=⟨_,_,_,h,rfl⟩
theorem VV{w:World}{base e d n:Nat}{v:Value}{i:List Value}(h:w.ownsRow base e d v n i){q:Nat}(a:v.ownBlock=some q):∃(f:Array Value) (b:TypeId) (k:Nat×Nat),w.heap[q]?=some (Obj.cells f b k)/\b=e:=by
 rcases h.2 with⟨rfl,_⟩|⟨g,c,l,rfl,_,j,_⟩
 .simp[Value.ownBlock]at a
 .simp only[Value.ownBlock,bR]at a;subst a;exact⟨_,_,_,j,rfl⟩
structure FR(w0:World)(cb:Nat)(clv:Value)(X:List Nat)(s:List Ah)(w:World):Prop where
 kept:Ac [] w0 w
 cb_:w0.heap.size<=cb
 out:∃(sad:Option Addr) (scp:Nat) (fs:List Gm) (tad:Option Addr) (tcp:Nat) (xs:List Value),AE w cb [clv,.slice sad fs.length scp,.slice tad s.length tcp] 139/\KQ w (.slice sad fs.length scp) fs/\Ei fs s/\
  w.ownsRow w0.heap.size 176 4 (.slice tad s.length tcp) s.length xs/\(∀q,(Value.slice sad fs.length scp).ownBlock=some q->w0.heap.size<=q)/\∀q,(Value.slice tad s.length tcp).ownBlock=some q->q∉X
theorem FR.grow{w0 w w':World}{a:Nat}{b:Value}{X:List Nat}{s:List Ah}(h:FR w0 a b X s w)(k:Ac [] w w'):FR w0 a b X s w':=by
 obtain⟨o,f,m,d,c,j,i,e,n,g,l⟩:=h.out;exact⟨h.kept.trans k,h.cb_,o,f,m,d,c,j,i.kept k (by simp),e.kept k,n,Ad g k (by simp),l⟩
noncomputable abbrev aS:A7->List Ah->UInt8->List cR->List cR:=λc s=>IX (Am c) s
noncomputable abbrev Hj(r:A7)(s:List Ah):List Ah:=Ps (IX (Am r) s) r (Ck r) (C7 r) s
structure VQ(pcs:List C0)(J:List Ah->Prop)(num:Nat)(r:A7)(s:List Ah):Prop where
 lt:num<pcs.length
 cl:Pp (pcs[num]'lt) r s
 nd:(Hj r s).Nodup
 new:∀f∈Hj r s,f∉s/\A4 f/\f.args.length<=1000
 len:(Hj r s).length<=100000
 mid:∀j,J (((Hj r s).take j).foldl Bp s)
theorem QN{s:List Ah}{l:List Ah}{j:Nat}(a:j<l.length):(l.take (j+1)).foldl Bp s=Bp ((l.take j).foldl Bp s) l[j]:=by
 rw[bM a,cY];rfl
theorem Ys{l:List Ah}{s:List Ah}(t:E8 s)(v:∀f∈s,A4 f)(x:l.Nodup)(h:∀f∈l,f∉s/\A4 f):∀j (c:j<l.length),E8 ((l.take j).foldl Bp s)/\(∀f∈(l.take j).foldl Bp s,A4 f)/\(∀f,f∈(l.take j).foldl Bp s↔f∈s\/f∈l.take j)/\l[j]∉(l.take j).foldl Bp s:=by
 have p:∀j,j<=l.length->E8 ((l.take j).foldl Bp s)/\(∀f∈(l.take j).foldl Bp s,A4 f)/\(∀f,f∈(l.take j).foldl Bp s↔f∈s\/f∈l.take j):=by
  intro j
  induction j with
  |zero=>intro _;exact⟨t,v,λf=>by simp⟩
  |succ j ih=>
   intro c;obtain⟨o,k,d⟩:=ih (by omega);(have g:j<l.length:=by omega);have u:=(h _ (bL g)).2;obtain⟨a,b,m⟩:=Ex u o k;rw[QN g];refine⟨a,b,λf=>?_⟩;rw[m,d,bM g,bY,bO,or_assoc]
 intro j c;obtain⟨o,k,d⟩:=p j (by omega);refine⟨o,k,d,λq=>?_⟩;rcases(d _).1 q with n|n
 .exact(h _ (bL c)).1 n
 .obtain⟨i,w,e⟩:=cN n;rw[cM]at w;rw[eR]at e;have r:=dH.1 x i j (by omega) c (by omega);exact r e
theorem Y5(f:Ah):(Df f).dc.length=f.args.length:=by unfold Df;simp
theorem Yk(J:List Ah->Prop)(w0:World)(u:Nat)(Z:Option Addr)(Y:Nat)(V:List C0)(a2:Option Addr)(TL:Nat)(W:List Nat)(ds:List A7)(s:List Ah)(w:World)(hP:C9 w0 (.slice Z V.length Y) V)(bs:V.length<=1000)(f2:W.length<=1000)
  (hY:w.ownsRow 0 3 1 (.slice a2 W.length TL) W.length (W.flatMap BM)) (hC:FR w0 u (.slice Z V.length Y) [] s w) (hJ:J s) (VL:∀s,J s->E8 s/\(∀f∈s,A4 f)/\s.length<=9000)
  (MB:∀s,J s->F2 (λD r=>VQ V J D r s) W ds):
  Calls prog 124 #[.pointer (some ⟨u,0,none⟩),.slice a2 W.length TL] w λr w'=>∃s',s'=(Fh (DX aS) ds s).1/\r=.returned (.bool (decide (s.length<s'.length)))/\J s'/\FR w0 u (.slice Z V.length Y) [] s' w'/\Gg w w':=by
 obtain⟨i0,cL,b3,c5,cx⟩:=cU Tryz.g0;have d2:=Ab hP;have b5:=Ab hY;have TS:=Ab hC;have HJ:=Ab hJ;have ab:=Ab VL;have c8:=Ab MB;have SP:Hid (W.length=ds.length):=(MB s hJ).length;obtain⟨ef,d7,e4,e7,d5,f1,W3,_⟩:=hC.out;have c2:=W3.cell 2;simp at c2;obtain⟨S0,NX⟩:∃S0,s.length=S0:=⟨_,rfl⟩;have bt:=Ab NX;rw[NX]at c2;clear hP hY hC hJ VL MB W3 NX;go_enter func124,ntmps124;go_wp2_with fail
 clear c2
 go_loopg [17] W.length (λgk i wr=>∃(k:Nat) (o:List Ah),i=.int .i64 k/\k<=W.length/\gk=W.length-k/\Hid (o=((ds.take k).foldl (ID (DX aS)) (s,false)).1)/\Hid (J o)/\Hid (FR w0 u (.slice Z V.length Y) [] o wr)/\Hid (Gg w wr))
 case atStart=>exact⟨0,s,rfl,by omega,rfl,rfl,HJ,TS,Gg.refl _⟩
 case round=>
  clear TS HJ;obtain⟨k,o,rfl,hk,bd,ST,RB,HD,KS⟩:=hrel;have HG:=Ab bd;clear bd;by_cases U0:k<W.length
  ·(have a0:k<ds.length:=by have:=Aa SP;omega);have HC:=(Aa c8 o (Aa RB)).at k U0 a0;obtain⟨yg,fk,he,bn⟩:=VX ((Aa KS).row (Aa b5) (by decide) (by decide) (by decide)) k U0;simp only[bK]at he;obtain⟨rfl,-,rfl⟩:=he;obtain⟨D,br⟩:∃D,W[k]=D:=⟨_,rfl⟩;rw[br]at bn HC;obtain⟨r,hr⟩:∃r,ds[k]=r:=⟨_,rfl⟩;rw[hr]at HC;have d3:Hid (((ds.take (k+1)).foldl (ID (DX aS)) (s,false)).1=(Hj r o).foldl Bp o):=by
    show _=_;rw[bM a0,cY,hr];have h:=Aa ST;rw[cC,List.foldl_nil];generalize(ds.take k).foldl (ID (DX aS)) (s,false)=acc at h⊢;rw[h];rfl
   clear br hr;obtain⟨EK,CC,R,S,Q,xs,U,HO,HI,HR,HT,hX⟩:=(Aa HD).out;have a4:=Ab (Rl u D Z Y V EK CC R (.slice S o.length Q) r o wr HC.lt bs U (by exact(Aa d2).kept (Aa HD).kept) HO HI HC.cl HC.len);have Go:=Ab HC;(have e8:(0:Int)<=(k:Int):=by omega);(have d8:(k:Int)<(W.length:Int):=by omega);have ad:Hid (∀w2 nv nn TH,Ac [] wr w2->w2.ownsRow wr.heap.size 176 4 nv nn TH->FR w0 u (.slice Z V.length Y) nv.ownBlock.toList o w2):=λw2 nv nn TH k2 hn=>⟨(Aa HD).kept.trans k2,(Aa HD).cb_,EK,CC,R,S,Q,xs,U.kept k2 (by simp),HO.kept k2,HI,Ad HR k2 (by simp),HT,λq d hm=>by
    have H:=(HR.lt q d).2
    have N:=(hn.lt q (by simpa using hm)).1
    omega⟩
   clear HC U HO HI HR HT hX;(go_wp2_with fail);refine(Aa a4).mono ?_;rintro _ w2 ⟨a3,K6,P,rfl,N4,L0,bp,k2⟩;have WW:=Ab ((Aa KS).trans (Gg.kept k2));have d0:=Ab N4;have H4:=Ab (Ak L0 (b8 _));have HQ:=Ab bp;(have ew:P.length=(Hj r o).length:=by have:=congrArg List.length N4;simpa using this);have aa:=Ab (Aa ad w2 _ _ _ k2 L0);have er:=(Aa Go).len;clear a4 N4 L0 bp HD KS ad bn k2;go_wp2_with fail
   go_loopg [25] P.length (λc9 i wq=>∃(j:Nat),i=.int .i64 j/\j<=P.length/\c9=P.length-j/\Hid (FR w0 u (.slice Z V.length Y) (Value.slice a3 P.length K6).ownBlock.toList (((Hj r o).take j).foldl Bp o) wq)/\Hid (wq.ownsRow 0 176 4 (.slice a3 P.length K6) P.length (P.flatMap (OE D)))/\Hid (∀G∈P,Ec wq G.f/\G.f.f.dc.length<=1000/\∃a n c,G.n=.slice a n c)/\Hid (Gg w wq))
   case atStart=>exact⟨0,rfl,by omega,rfl,aa,H4,HQ,WW⟩
   case round=>
    clear aa H4 HQ WW;obtain⟨j,rfl,hj,WB,FF,H4,HQ,al⟩:=hrel;have cv:=Ab WB;clear WB;by_cases HM:j<P.length
    ·(have JJ:j<(Hj r o).length:=by omega);obtain⟨g,f0,he,_,H1⟩:=Av (Aa H4) (λc _=>rfl) j HM;simp only[bK]at he;obtain⟨rfl,-,rfl⟩:=he;have e0:=H1 j HM 0 (by omega);have e1:=H1 j HM 1 (by omega);have e2:=H1 j HM 2 (by omega);have e3:=H1 j HM 3 (by omega);obtain⟨KK,OH,O,I,L,hn⟩:=Aa HQ _ (bL HM);have Ix:P[j].f.f=Df (Hj r o)[j]:=by
      have h:=congrArg (λl=>l[j]?) (Aa d0);simp only[dI,bW HM,bW JJ,ei,bR]at h;exact h
     obtain⟨⟨⟨⟨z,BT⟩,fv⟩,nv⟩,ES⟩:∃G,P[j]=G:=⟨_,rfl⟩;rw[ES]at e0 e1 e2 e3 KK OH hn Ix;obtain⟨C,B,ba⟩:=Aj KK;simp only at ba hn OH Ix;subst ba hn;obtain⟨y,N0⟩:∃y,BT.length=y:=⟨_,rfl⟩;simp[OE,N0]at e0 e1 e2 e3;obtain⟨F,hF⟩:∃F,(Hj r o)[j]=F:=⟨_,rfl⟩;rw[hF]at Ix;have bl:=(Aa Go).new F (by rw[<-hF];exact bL JJ);have RE:=Aa ab o (Aa RB);have K8:=Ys RE.1 RE.2.1 (Aa Go).nd (λf hf=>⟨((Aa Go).new f hf).1,((Aa Go).new f hf).2.1⟩) j JJ;rw[hF]at K8;(have W0:Hid (((Hj r o).take (j+1)).foldl Bp o=Bp (((Hj r o).take j).foldl Bp o) F):=by show _=_;rw[QN JJ,hF]);have KD:=Aa ab _ ((Aa Go).mid j);obtain⟨SJ,TV⟩:∃SJ,((Hj r o).take j).foldl Bp o=SJ:=⟨_,rfl⟩;rw[TV]at FF K8 W0 KD;have VR:=Ab K8;have HW:=Ab Ix;have cr:=Ab KK;have N2:=Ab bl;have d1:=Ab N0;obtain⟨EK,CC,R,S,Q,xs,U,HO,HI,HR,HT,hX⟩:=(Aa FF).out;have b2:=HI.len;have HB:=Ab U;have NY:=Ab HO;have Nx:=Ab HI;have VS:=Ab HR;have a5:=Ab HT;have HX:=Ab hX;(have f4:(0:Int)<=(j:Int):=by omega);(have d6:(j:Int)<(P.length:Int):=by omega);obtain⟨E,an⟩:∃E,SJ.length=E:=⟨_,rfl⟩;have LE:=Ab an;(have ch:Hid (E<=9000):=by show E<=9000;have:=KD.2.2;omega);(have ca:Hid (R.length<=9000):=by show R.length<=9000;have:=KD.2.2;omega);have K9:=Ab (AE.new wr [.string z,.slice C y B,.int .i64 D,.slice O I L] 176);have PT:=Ab ((Ac.refl [] wr).alloc (.cells [.string z,.slice C y B,.int .i64 D,.slice O I L].toArray 176));clear U HO HI HR HT hX K8 bl RE hF Ix KK ES H1 TV KD b2 N0 OH an;refine wp_seq_k (λK1 Ax=>?_);have AH:=Ab Ax;clear Ax;go_wp2;refine Aa AH _ _ ?_;clear AH K1;refine wp_seq_k (λK1 Ax=>?_);have AH:=Ab Ax;clear Ax;go_wp2;refine Aa AH _ _ ?_;clear AH K1;refine wp_seq_k (λK5 Wa=>?_);have av:=Ab Wa;clear Wa;refine wp_block ?_;refine wp_seq_k (λK1 Ax=>?_);have AH:=Ab Ax;clear Ax;go_wp2;refine Aa AH _ _ ?_;clear AH K1 e0 e1 e2 e3;change Code.wp _ _ _ _ (wr.alloc (.cells [.string z,.slice C y B,.int .i64 D,.slice O I L].toArray 176));generalize hw3:wr.alloc (.cells [.string z,.slice C y B,.int .i64 D,.slice O I L].toArray 176)=w3 at K9 PT⊢;clear hw3;obtain⟨A,SB⟩:∃A,wr.heap.size=A:=⟨_,rfl⟩;have b6:=Ab SB;rw[SB]at K9⊢;clear SB;have QR:Hid (∀m,AE m A [.string z,.slice C y B,.int .i64 D,.slice O I L] 176->m.cell? ⟨A,0,none⟩=some (.string z)/\m.cell? ⟨A,1,none⟩=some (.slice C y B)/\m.cell? ⟨A,2,none⟩=some (.int .i64 D)/\m.cell? ⟨A,3,none⟩=some (.slice O I L)):=by
      intro m U;have h0:=U.cell 0;have H:=U.cell 1;have N:=U.cell 2;have h3:=U.cell 3;simp at h0 H N h3;exact⟨h0,H,N,h3⟩
     have X:=Ab (Aa QR w3.drew (Aa K9));refine wp_seq_k (λK1 Ax=>?_);have AH:=Ab Ax;clear Ax;refine Cp 6 (λm=>m.cell? ⟨A,0,none⟩=some (.string z)/\m.cell? ⟨A,1,none⟩=some (.slice C y B)/\m.cell? ⟨A,2,none⟩=some (.int .i64 D)/\m.cell? ⟨A,3,none⟩=some (.slice O I L)) (by kernel_rfl) ?_;refine Ce.tkH (i:=0) (v:=.pointer (some ⟨u,0,none⟩)) rfl (by kernel_rfl) (λ_ _ _ h=>h) X (by rfl) ?_ ?_
     ·(rintro m ⟨z0,z1,z2,z3⟩;go_simp)
     simp only[Act.put,bH,bI,bJ];refine Ce.tkH (i:=1) (v:=.pointer (some ⟨u,0,none⟩)) rfl (by kernel_rfl) (λ_ _ _ h=>h) X (by rfl) ?_ ?_
     ·(rintro m ⟨z0,z1,z2,z3⟩;go_simp)
     simp only[Act.put,bH,bI,bJ];refine Ce.tkH (i:=2) (v:=.pointer (some ⟨u,1,none⟩)) rfl (by kernel_rfl) (λ_ _ _ h=>h) X (by rfl) ?_ ?_
     ·(rintro m ⟨z0,z1,z2,z3⟩;go_simp)
     simp only[Act.put,bH,bI,bJ];refine Ce.tkH (i:=3) (v:=.pointer (some ⟨A,0,none⟩)) rfl (by kernel_rfl) (λ_ _ _ h=>h) X (by rfl) ?_ ?_
     ·(rintro m ⟨z0,z1,z2,z3⟩;go_simp)
     simp only[Act.put,bH,bI,bJ];refine Ce.tkH (i:=4) (v:=.agg #[.string z,.slice C y B]) rfl (by kernel_rfl) (λ_ _ _ h=>h) X (by rfl) ?_ ?_
     ·(rintro m ⟨z0,z1,z2,z3⟩;go_simp)
     simp only[Act.put,bH,bI,bJ];refine Ce.one (i:=5) (by kernel_rfl) rfl (λK T=>?_)
     go_simp
     have FW:Ac [] wr w3.drew:=(Aa PT).drew;have LL:=Ab (YT u 1 [.slice Z V.length Y,.slice EK R.length CC,.slice S SJ.length Q] 139 EK CC R ⟨⟨z,BT⟩,.slice C BT.length B⟩ w3.drew ((Aa HB).kept FW (by simp)) rfl (by decide) (by decide) ((Aa NY).kept FW) ((Aa cr).kept FW) (by show BT.length<=1000;have h:=congrArg (λp=>p.dc.length) (Aa HW);simp only[Y5]at h;have:=(Aa N2).2.2;omega) (by have:=Aa ca;omega) ((Aa Nx).mono _));simp only[Bh]at LL;rw[Aa d1]at LL;refine(Aa LL).mono ?_;rintro _ M ⟨rfl,hA⟩;have HK:AE w3.drew A [.string z,.slice C y B,.int .i64 D,.slice O I L] 176:=Aa K9;have K7:=(Aa HB).kept FW (by simp);have NS:=(Aa NY).kept FW;have XS:A∉u::(Value.slice EK R.length CC).ownBlock.toList:=by
      intro hm;rcases bS.1 hm with h|h
      .rw[h]at HK;unfold AE at HK K7;rw[K7]at HK;simp at HK
      .exact AS NS.row HK (by decide) (by simpa using h)
     have LM:=HK.kept hA.kept XS;refine T.out _ _ (λ_=>Aa QR _ LM) ?_;clear T K;refine Ce.done (by kernel_rfl) ?_ _
     try simp only[Act.put,bH,bI,bJ]
     refine Aa AH _ _ ?_;clear AH K1 X LL;obtain⟨p,H3,HZ,hcut,H5,a8,UO⟩:=hA.out;simp only[bJ,bI]at H5;have Os:GI R (Df F) p:=by
      have h:=hcut;simp only at h;rw[Aa HW]at h;exact h
     have M0:EQ R ⟨z,BT⟩ p=false:=by
      rw[Aa HW,(Aa Nx).gX (Aa N2).2.1 Os];cases hh:FK SJ F with
      |false=>rfl
      |true=>exact absurd ((Cw _ _).1 hh) (Aa VR).2.2.2
     have co:Hid (Ei (Pt R ⟨⟨z,BT⟩,.slice C y B⟩ p) (Bp SJ F)):=by
      have h:=(Aa Nx).zP (x:=⟨⟨z,BT⟩,.slice C y B⟩) (Aa HW) (Aa N2).2.1 Os (by rw[<-Aa HW];exact M0);unfold Pt;simp only[M0,bN,if_false];exact h
     (have Mo:Hid ((Bp SJ F).length=E+1):=by show _=_;rw[(JB SJ F).2 (Aa VR).2.2.2,Aa LE]);have HY:=Ab a8;have c6:Hid (∀q,(Value.slice H3 (Pt R ⟨⟨z,BT⟩,.slice C y B⟩ p).length HZ).ownBlock=some q->w0.heap.size<=q):=by
      intro q d;rcases UO q d with h|h
      .exact Aa a5 q h
      .have H:w3.heap.size<=q:=h;have N:=(Aa FF).kept.size;have h3:=(Aa PT).size;omega
     have P0:Ac (u::(Value.slice EK R.length CC).ownBlock.toList) wr M:=((FW.mono (by simp)).trans hA.kept);have bv:Hid (Gg w M):=(Aa al).trans ((Gg.kept FW).trans (Gg.of hA.kept (λq d=>by
      rcases bS.1 d with rfl|d
      .obtain⟨a,b,c,H,N⟩:=VP K7
       exact⟨a,b,c,H,Or.inl N⟩
      .obtain⟨a,b,c,H,N⟩:=VV NS.row (q:=q) (by simpa using d)
       exact⟨a,b,c,H,Or.inr (Or.inl N)⟩)))
     have a9:Hid (Ac [] w0 M):=(Aa FF).kept.trans' P0 (λq d=>Or.inr (by
      rcases bS.1 d with rfl|d
      .exact(Aa FF).cb_
      .exact Aa a5 q (by simpa using d)))
     have K3:∀{b e sz n:Nat} {v:Value} {ys:List Value},wr.ownsRow b e sz v n ys->e≠139->e≠104->M.ownsRow b e sz v n ys:=fun{b e sz n v ys} hr H N=>Al hr P0 (λq d hm=>by
      rcases bS.1 hm with rfl|hm
      .exact AS hr (Aa HB) H d
      .exact BB hr (Aa NY).row N q d (by simpa using hm))
     have Nq:=K3 (Aa VS) (by decide) (by decide);rw[Aa LE]at Nq;have HP:=Ab Nq;have T0:=Ab (K3 (Aa H4) (by decide) (by decide));(have M1:Hid (∀G∈P,Ec M G.f/\G.f.f.dc.length<=1000/\∃a n c,G.n=.slice a n c):=λG ES=>⟨K3 (v:=G.f.tv) (Aa HQ G ES).1 (by decide) (by decide),(Aa HQ G ES).2⟩);have ar:=Ab LM;have MY:Hid (∀q,(Value.slice S E Q).ownBlock=some q->q<A/\q∉(Value.slice (some ⟨g,0,none⟩) P.length K6).ownBlock.toList):=λq d=>by
      have H:=Aa VS;have N:=Aa HX;rw[Aa LE]at H N;have h3:=(H.lt q d).2;have h4:=Aa b6;exact⟨by omega,N q d⟩
     rw[Aa LE]at H5;obtain⟨FL,Op⟩:∃FL,(Pt R ⟨⟨z,BT⟩,.slice C y B⟩ p).length=FL:=⟨_,rfl⟩;have b7:=Ab Op;have NV:Hid (AE M u [.slice Z V.length Y,.slice H3 FL HZ,.slice S E Q] 139):=by
      rw[Op]at H5;exact H5
     clear hA HK K7 NS XS LM FW hcut Os H5 a8 UO M0 P0 Nq Op K3;have H8:Hid (∀m,AE m A [.string z,.slice C y B,.int .i64 D,.slice O I L] 176->AE m u [.slice Z V.length Y,.slice H3 FL HZ,.slice S E Q] 139->m.cell? ⟨u,2,none⟩=some (.slice S E Q)/\m.cell? ⟨A,0,none⟩=some (.string z)/\m.cell? ⟨A,1,none⟩=some (.slice C y B)/\m.cell? ⟨A,2,none⟩=some (.int .i64 D)/\m.cell? ⟨A,3,none⟩=some (.slice O I L)):=by
      intro m U hc;have h0:=hc.cell 2;simp at h0;exact⟨h0,Aa QR m U⟩
     have X:=Ab (Aa H8 M.drew (Aa ar) (Aa NV));refine Cp 10 (λm=>m.cell? ⟨u,2,none⟩=some (.slice S E Q)/\m.cell? ⟨A,0,none⟩=some (.string z)/\m.cell? ⟨A,1,none⟩=some (.slice C y B)/\m.cell? ⟨A,2,none⟩=some (.int .i64 D)/\m.cell? ⟨A,3,none⟩=some (.slice O I L)) (by kernel_rfl) ?_;refine Ce.tk (i:=0) (v:=.pointer (some ⟨u,0,none⟩)) rfl (by kernel_rfl) (λ_ _ _ h=>h) X (by rfl) ?_ ?_
     ·(rintro m ⟨z0,z1,z2,z3,z4⟩;go_simp)
     simp only[Act.put,bH,bI,bJ];refine Ce.tk (i:=1) (v:=.pointer (some ⟨u,0,none⟩)) rfl (by kernel_rfl) (λ_ _ _ h=>h) X (by rfl) ?_ ?_
     ·(rintro m ⟨z0,z1,z2,z3,z4⟩;go_simp)
     simp only[Act.put,bH,bI,bJ];refine Ce.tk (i:=2) (v:=.pointer (some ⟨u,0,none⟩)) rfl (by kernel_rfl) (λ_ _ _ h=>h) X (by rfl) ?_ ?_
     ·(rintro m ⟨z0,z1,z2,z3,z4⟩;go_simp)
     simp only[Act.put,bH,bI,bJ];refine Ce.tk (i:=3) (v:=.pointer (some ⟨u,2,none⟩)) rfl (by kernel_rfl) (λ_ _ _ h=>h) X (by rfl) ?_ ?_
     ·(rintro m ⟨z0,z1,z2,z3,z4⟩;go_simp)
     simp only[Act.put,bH,bI,bJ];refine Ce.tk (i:=4) (v:=.slice S E Q) rfl (by kernel_rfl) (λ_ _ _ h=>h) X (by rfl) ?_ ?_
     ·(rintro m ⟨z0,z1,z2,z3,z4⟩;go_simp)
     simp only[Act.put,bH,bI,bJ];refine Ce.tk (i:=5) (v:=.agg #[.string z,.slice C y B,.int .i64 D,.slice O I L]) rfl (by kernel_rfl) (λ_ _ _ h=>h) X (by rfl) ?_ ?_
     ·(rintro m ⟨z0,z1,z2,z3,z4⟩;go_simp)
     simp only[Act.put,bH,bI,bJ];refine Ce.one (i:=6) (by kernel_rfl) rfl (λK T=>?_)
     go_simp
     have RO:AE (M.drew.alloc (.cells #[.string z,.slice C y B,.int .i64 D,.slice O I L] 176)) A [.string z,.slice C y B,.int .i64 D,.slice O I L] 176:=AE.alloc (w:=M.drew) (Aa ar) _;have NL:AE (M.drew.alloc (.cells #[.string z,.slice C y B,.int .i64 D,.slice O I L] 176)) u [.slice Z V.length Y,.slice H3 FL HZ,.slice S E Q] 139:=AE.alloc (w:=M.drew) (Aa NV) _;refine T.out _ _ (λ_=>Aa H8 _ RO NL) ?_;clear T K
     try simp only[Act.put,bH,bI,bJ]
     have MN:M.drew.ownsRow w0.heap.size 176 4 (.slice S E Q) E xs:=Aa HP;have b4:w0.heap.size<=M.heap.size:=(Aa a9).size;have e6:=Aa ch;refine Ce.one (i:=7) (by kernel_rfl) rfl (λK T=>?_);refine fc _ (by rfl) _ _ _ (by rfl) w0.heap.size 176 i0 _ 4 72 underlying137 cL b3 c5 cx rfl (by omega) (.slice S E Q) E xs (by rfl) (bQ MN _)
      ⟨M.drew.heap.size,0,none⟩ 1 1 [.string z,.slice C y B,.int .i64 D,.slice O I L] (by rfl) (by rfl) (cj (cs:=#[.string z,.slice C y B,.int .i64 D,.slice O I L]) (t:=176) (fr:=(0,0)) (cA M.drew _)) (by simp[Value.oneCell'])
      (by omega) (by unfold maxLen;omega) (by omega) (by simp;exact Nat.le_succ_of_le b4) (M.heap.size+1) (by simp) ?_
     intro gg HF u3 NM K2 ag c0;have IA:=RO.grown K2 (λe=>by have:=(Aa MY A e).1;omega);have AO:=NL.grown K2 (AS MN (Aa NV) (by decide));refine T.out _ _ (λ_=>Aa H8 _ IA AO) ?_;clear T K
     try simp only[Act.put,bH,bI,bJ]
     refine Ce.one (i:=8) (by kernel_rfl) rfl (λK T=>?_)
     go_simp
     refine T.out _ _ (λ_=>Aa H8 _ IA AO) ?_;clear T K
     try simp only[Act.put,bH,bI,bJ]
     refine Ce.one (i:=9) (by kernel_rfl) rfl (λK T=>?_)
     go_simp
     refine T.out _ _ (λ_=>Aa H8 _ IA AO) ?_;clear T K
     try simp only[Act.put,bH,bI,bJ]
     have TX:=AO.cell 2;have c1:=AO.frozen 2;simp at TX;refine Ce.one (i:=10) (by kernel_rfl) rfl (λK T=>?_)
     go_simp
     refine T.out _ _ (λh=>absurd rfl h) ?_;clear T K;refine Ce.done (by kernel_rfl) ?_ _
     try simp only[Act.put,bH,bI,bJ]
     have LC:Ac ((Value.slice S E Q).ownBlock.toList) M u3:=(((Ac.refl _ M).drew).alloc (.cells #[.string z,.slice C y B,.int .i64 D,.slice O I L] 176)).grown K2 (λq d=>Or.inl (by rw[d];simp));have M6:Ac [u] u3 (u3.setCell ⟨u,2,none⟩ (.slice (some ⟨gg,0,none⟩) (E+1) HF)):=(Ac.refl [u] u3).setCell (p:=⟨u,2,none⟩) (Or.inl (by simp)) _;have H2:∀{b e sz n:Nat} {v:Value} {ys:List Value},M.ownsRow b e sz v n ys->e≠139->(∀q,v.ownBlock=some q->(Value.slice S E Q).ownBlock≠some q)->(u3.setCell ⟨u,2,none⟩ (.slice (some ⟨gg,0,none⟩) (E+1) HF)).ownsRow b e sz v n ys:=fun{b e sz n v ys} hr H N=>by
      have h3:=Al hr LC (λq d hm=>N q d (by simpa using hm));exact Ag h3 (AS h3 AO H) _
     have ap:Hid (FR w0 u (.slice Z V.length Y) (Value.slice (some ⟨g,0,none⟩) P.length K6).ownBlock.toList (((Hj r o).take (j+1)).foldl Bp o) (u3.setCell ⟨u,2,none⟩ (.slice (some ⟨gg,0,none⟩) (E+1) HF))):=by
      rw[Aa W0];refine⟨((Aa a9).trans' LC (λq d=>Or.inr ((Aa HP).lt q (by simpa using d)).1)).trans' M6 (λq d=>Or.inr (by simp only[bO]at d;rw[d];exact(Aa FF).cb_)),(Aa FF).cb_,H3,HZ,Pt R ⟨⟨z,BT⟩,.slice C y B⟩ p,some ⟨gg,0,none⟩,HF,xs++[.string z,.slice C y B,.int .i64 D,.slice O I L],?_,⟨?_,λq d=>⟨?_,?_⟩⟩,Aa co,?_,Aa c6,?_⟩
      .rw[Aa Mo,Aa b7];exact AO.set 2 _
      .exact H2 (Aa HY).row (by decide) (λq d=>BB (Aa HY).row (Aa HP) (by decide) q d)
      .exact H2 (v:=q.tv) ((Aa HY).each q d).1 (by decide) (λq' cz=>BB (v1:=q.tv) ((Aa HY).each q d).1 (Aa HP) (by decide) q' cz)
      .exact((Aa HY).each q d).2
      .rw[Aa Mo];exact Ag NM (AS NM AO (by decide)) _
      .rw[Aa Mo];intro q d;simp only[Value.ownBlock,bR]at d;subst d;rcases ag with h|h
       .exact(Aa MY gg h).2
       .intro hm;have H:=((Aa T0).lt gg (by simpa using hm)).2;omega
     have af:=Ab (H2 (Aa T0) (by decide) (λq d h=>(Aa MY q h).2 (by rw[d];simp)));(have ZV:Hid (∀G∈P,Ec (u3.setCell ⟨u,2,none⟩ (.slice (some ⟨gg,0,none⟩) (E+1) HF)) G.f/\G.f.f.dc.length<=1000/\∃a n c,G.n=.slice a n c):=λG ES=>⟨H2 (v:=G.f.tv) (Aa M1 G ES).1 (by decide) (λq d=>BB (v1:=G.f.tv) (Aa M1 G ES).1 (Aa HP) (by decide) q d),(Aa M1 G ES).2⟩);have bb:Hid (Gg w (u3.setCell ⟨u,2,none⟩ (.slice (some ⟨gg,0,none⟩) (E+1) HF))):=((Aa bv).trans (Gg.of LC (λq d=>by
      obtain⟨a,b,c,H,N⟩:=VV (Aa HP) (q:=q) (by simpa using d)
      exact⟨a,b,c,H,Or.inr (Or.inr N)⟩))).trans (Gg.of M6 (λq d=>by
      simp only[bO]at d
      rw[d]
      obtain⟨a,b,c,H,N⟩:=VP AO
      exact⟨a,b,c,H,Or.inl N⟩))
     generalize u3.setCell ⟨u,2,none⟩ (.slice (some ⟨gg,0,none⟩) (E+1) HF)=w6 at ap af ZV bb⊢;clear NM K2 ag c0 IA AO RO NL MN TX c1 LC M6 H2 X;refine Aa av _ _ ?_;clear av;go_wp2
     go_roundg (P.length-(j+1))
     case measure=>have:=Aa cv;omega
     case rel=>exact⟨j+1,by go_num,by omega,rfl,ap,af,ZV,bb⟩
    .have bz:Hid (FR w0 u (.slice Z V.length Y) [] ((Hj r o).foldl Bp o) wr):=by
      have h:=Aa FF;rw[bP (by omega)]at h;obtain⟨EK,CC,R,S,Q,xs,g1,g2,g3,g4,g5,g6⟩:=h.out;exact⟨h.kept,h.cb_,EK,CC,R,S,Q,xs,g1,g2,g3,g4,g5,λq d=>by simp⟩
     have bx:Hid (J ((Hj r o).foldl Bp o)):=by
      have h:=(Aa Go).mid (Hj r o).length;rw[eN]at h;exact h
     go_wp2_with fail
     go_roundg (W.length-(k+1))
     case measure=>have:=Aa HG;omega
     case rel=>exact⟨k+1,(Hj r o).foldl Bp o,by go_num,by omega,rfl,(Aa d3).symm,bx,bz,al⟩
  .have HE:Hid (o=(Fh (DX aS) ds s).1):=by
    have h:=Aa ST;rw[bP (by have:=Aa SP;omega)]at h;exact h
   obtain⟨EK,CC,R,S,Q,xs,U,_⟩:=(Aa HD).out;have c2:=U.cell 2;simp at c2;obtain⟨S1,RT⟩:∃S1,o.length=S1:=⟨_,rfl⟩;rw[RT]at c2;have c4:=Ab RT;clear U RT;go_wp2;go_ret;refine⟨o,Aa HE,?_,Aa RB,Aa HD,Aa KS⟩;rw[Aa bt,Aa c4]
   first|rfl|(simp;done)|simp
