import Derived.Test.YtoihbhenbmffcaaGreatDoorYBI
import Derived.Test.YtoihbhenbmffcaaGreatDoorYBO
set_option linter.all false
set_option maxHeartbeats 0
open List renaming length->Z
open Option renaming none->Y,some->V
open Go.Value renaming slice->U,int->X,string->O,pointer->j3,ownBlock->jN
open Go.IntKind renaming i64->J
open Go.Obj renaming cells->j1
open Or renaming inl->j5,inr->j6
open Go renaming World->j7,Value->j8
open Go.RowKit renaming Hid->j9
open Go.World renaming cell?->jF,ownsRow->jG
open Go.Act renaming put->jO
namespace Go.Proofs.YtoihbhenbmffcaaGreatDoor
open Go.RowKit Go.Proofs.Tryz
def F2.at{α β:Type}{R:α->β->Prop}:∀{l:List α} {m:List β},F2 R l m->∀k (c:k<Z l) (d:k<Z m),R l[k] m[k]
 |[],[],_,k,c,_=>by simp at c
 |a::l,b::m,h,0,_,_=>h.1
 |a::l,b::m,h,k+1,c,d=>F2.at (l:=l) (m:=m) h.2 k (by simpa using c) (by simpa using d)
def D0.put{w':World}{mb n:Nat}{L:g0->Nat}{D:DataW Unit}{x:g0}{v:Nat}(hD:Maps.IsMap D)(hat:∀y,D.atKey (Rv y) (.lit (.int .i64 0))=.lit (.int .i64 (L y)))(h:w'.ownsMap prog 9 (plainElem prog 3) mb n (D.put (Rv x) (.lit (.int .i64 v)))):D0 w' mb n (Oc L x v):=by
 refine⟨_,h,?_,λy=>?_⟩
 .obtain⟨es,clock,_,_,_,e⟩:=h;exact⟨_,e⟩
 .by_cases hy:y=x
  .subst hy;rw[GE,Maps.atKey_put_same hD (by unfold Rv;exact trivial)]
  .rw[II _ hy,Maps.atKey_put_other (λe=>hy (ZF e))];exact hat y
def D0.mono{w:j7}{b n a:Nat}{L:g0->Nat}(h:D0 w b n L)(e:n<=a):D0 w b a L:=by
 obtain⟨D,d,c⟩:=h.at_;exact⟨D,d.mono e,c⟩
def QR:∀(a:List A8),D1 a (λ_=>0)=0
 |[]=>rfl
 |c::a=>by
  have e:D1 (c::a) (λ_=>0)=0+D1 a (λ_=>0):=by unfold D1;rw[eR,List.sum_cons]
  rw[e,QR a]
def V2(x:g0):(DataW.map []:DataW Unit).atKey (Rv x) (.lit (.int .i64 0))=.lit (.int .i64 0):=by
 first|rfl|(unfold Rv;rfl)|simp[DataW.atKey]
def dh(rcs:List A8)(zM:g0->Nat)(w:j7)(r:Ending)(w':j7):Prop:=∃(mb n:Nat) (L:g0->Nat),r=.returned (.map (V mb))/\D0 w' mb n L/\Di rcs L/\(∀x,L x<=zM x)/\w.heap.size<=mb/\Ac [] w w'
set_option maxRecDepth 100000
theorem Mv(lad:Option Addr)(lcp:Nat)(pcs:List Dq)(rcs:List A8)(w:World)(zM:g0->Nat)(hP:DG w (.slice lad pcs.length lcp) pcs)(hC:F2 R3 pcs rcs)(hlen:pcs.length<=1000)(hll:∀c∈pcs,c.zC.length<=1000)(hsz:∀c∈pcs,c.hn.size<=1000000/\∀p∈c.zC,p.1.an.size<=1000000)(hL:Di rcs zM)(hlv:∀x,zM x<=1000)(hsum:D1 rcs zM<=100000):
  Calls prog 166 #[.slice lad pcs.length lcp] w λr w'=>dh rcs zM w r w':=by
 have HPr:=Ab hP;have HCr:=Ab hC;have HLl:=Ab hll;have HSz:=Ab hsz;have HLk:=Ab hL;have HLv:=Ab hlv;have HSu:=Ab hsum;have HRl:=Ab hC.lenX;have HM0:Hid (D0 (w.alloc (.map #[] 0)) w.heap.size 0 (λ_=>0)):=⟨.map [],World.ownsMap_made w _ _ _,⟨_,rfl⟩,V2⟩;have HK0:=Ab ((Ac.refl [] w).alloc (.map #[] 0));have hmm:= @run_makeMap prog;obtain⟨MB,hMB⟩:∃MB,w.heap.size=MB:=⟨_,rfl⟩;have HMB:=Ab hMB;clear hP hC hll hsz hL hlv hsum;go_enter func166,ntmps166;go_wp2_with fail
 generalize hw1:w.alloc (.map #[] 0)=w1 at HM0 HK0⊢;clear hw1 hmm;rw[hMB]at HM0
 try rw[hMB]
 clear hMB
 go_loopg [4] (D1 rcs zM+2) (λgk rv wr=>∃(R:Bool) (L:g0->Nat),rv=.bool R/\gk=(if R then D1 rcs zM-D1 rcs L+2 else 1)/\Hid (D0 wr MB (D1 rcs L) L)/\Hid (∀x,L x<=zM x)/\Hid (R=false->Di rcs L)/\Hid (Ac [] w wr))
 case atStart=>
  refine⟨true,λ_=>0,rfl,?_,HM0.mono (eV _),λx=>eV _,λh=>(by cases h),HK0⟩;rw[eI rfl,QR,Nat.sub_zero]
 case round=>
  clear HM0 HK0;obtain⟨R,L,rfl,hgk,HM,HLe,HFi,HK⟩:=hrel;have HG:=Ab hgk;clear hgk;cases R with
  |false=>
   have HOk:=Ab (HFi rfl);go_wp2;go_ret;exact⟨MB,_,L,rfl,HM,HOk,HLe,by have:=Aa HMB;omega,HK⟩
  |true=>
   go_wp2_with fail
   go_loopg [4,12] pcs.length (λgk2 rv i wq=>∃(k:Nat) (m:Bool) (L':g0->Nat),rv=.bool m/\i=.int .i64 k/\k<=pcs.length/\gk2=pcs.length-k/\Hid ((rcs.take k).foldl Ea (L,false)=(L',m))/\Hid (D0 wq MB (D1 rcs L') L')/\Hid (Ac [] w wq))
   case atStart=>exact⟨0,false,L,rfl,rfl,by omega,rfl,rfl,HM,HK⟩
   case round=>
    clear HM HK;obtain⟨k,m,L',rfl,rfl,hk,hgk2,HFo,HM,HK⟩:=hrel;have HG2:=Ab hgk2;clear hgk2;have HUp:Hid ((∀x,L' x<=zM x)/\D1 rcs L'<=D1 rcs zM):=by
     have h:=I6 HLk (rcs.take k) L false (λc hc=>fR hc) HLe;rw[Aa HFo]at h;exact⟨h.2.1,Wm h.2.1⟩
    by_cases zX:k<pcs.length
    ·(have hltr:k<rcs.length:=by have:=Aa HRl;omega);have hcor:=HCr.at k zX hltr;obtain⟨g,cap,hp,hn,zD,adh,cph,adb,cpb,zC,he,hck,d0,d1,d2,d3⟩:=Fh (HPr.kept HK) k zX;simp only[ei]at he;obtain⟨rfl,-,rfl⟩:=he;have hmem:pcs[k]∈pcs:=eo zX;have hpc:=HPr.each _ hmem;have hl3:=Aa HLl _ hmem;have hs3:=Aa HSz _ hmem;rw[hck]at hcor hpc hl3 hs3;have HKa:=Ab (HK.alloc (.cells #[.int .i64 hp,.string hn,.slice adh zD.length cph,.slice adb zC.length cpb] 189));have HMa:=Ab (HM.zU ((Ac.refl [] wr).alloc (.cells #[.int .i64 hp,.string hn,.slice adh zD.length cph,.slice adb zC.length cpb] 189)) (by simp));have HBx:=Ab (AI.new wr [.int .i64 hp,.string hn,.slice adh zD.length cph,.slice adb zC.length cpb] 189);have hup:=Aa HUp;have HC1:=Ab (Oq MB (D1 rcs L') L' adb cpb zC _ HMa (hpc.body.kept HKa (by simp)) hl3 (λx=>by have:=hup.1 x;have:=Aa HLv x;omega) hs3.2);have hle:GH L' 0 (zC.map Prod.fst)=Gj L' (Aj rcs[k]):=by
      have h2:=F2.fst hcor.lits;simp only at h2;rw[h2,OM];rfl
     have hnm:hn=rcs[k].head.name:=hcor.hn;have De:Hid ((rcs.take (k+1)).foldl Ea (L,false)=Ea (L',m) rcs[k]):=by
      show _=_;rw[ep hltr,fE,Aa HFo];rfl
     have HRc:Hid (Ea (L',m) rcs[k]=if L' hn<GH L' 0 (zC.map Prod.fst)then(Oc L' hn (GH L' 0 (zC.map Prod.fst)),true)else(L',m)):=by
      show _=_;unfold Ea;rw[hle,hnm]
     have HLt:Hid (∀v,L' hn<v->D1 rcs L'+1<=D1 rcs (Oc L' hn v)):=by
      intro v hv;refine bf (λx=>?_) (eo hltr) ?_
      .by_cases hx:x=hn
       .rw[hx,GE];omega
       .rw[II _ hx];exact eM _
      .rw[<-hnm,GE];exact hv
     have hkey:=Wo hs3.1;have hlx:=hup.1 hn;have hlx2:=Aa HLv hn;(have HHn:Hid (L' hn<=1000):=by show L' hn<=1000;omega);(have HSm:Hid (D1 rcs L'<=100000):=by have:=hup.2;have:=Aa HSu;show D1 rcs L'<=100000;omega);have HLc:Hid (GH L' 0 (zC.map Prod.fst)<=100000):=by
      have h:=MG (L:=L') (b:=2000) (Aj rcs[k]) 0 (by omega) (λx hx=>⟨λ_=>by have:=hup.1 x.A.name;have:=Aa HLv x.A.name;omega,λ_=>by have:=hup.1 x.A.name;have:=Aa HLv x.A.name;omega⟩);rw[hle];have h2:Gj L' (Aj rcs[k])<=2000:=h;show Gj L' (Aj rcs[k])<=100000;omega
     clear hcor hpc hl3 hs3 hmem hck hup hle hnm hlx hlx2;obtain⟨LC,hLC⟩:∃LC,GH L' 0 (zC.map Prod.fst)=LC:=⟨_,rfl⟩;rw[hLC]at HC1 HRc HLc;clear hLC HK HM HUp;(go_wp2_with fail);refine HC1.mono ?_;rintro _ w3 ⟨rfl,k3⟩;have HK3:=Ab (HKa.trans k3);have hM3:=HMa.zU k3 (by simp);have HM3:=Ab hM3;have hB3:=HBx.kept k3 (by simp);have e0:=hB3.cell 0;have e1:=hB3.cell 1;simp at e0 e1;obtain⟨D,hown,hDm,hD⟩:=hM3.at_;have HDm:=Ab hDm;have HD:=Ab hD;obtain⟨lx,hlx⟩:∃lx,L' hn=lx:=⟨_,rfl⟩;have HLX:=Ab hlx;clear hM3 hB3 HBx HMa HKa HC1 k3 d0 d1 d2 d3 hDm hD hlx;by_cases hlow:lx<LC
     ·(have hlowi:(lx:Int)<(LC:Int):=by omega);have hval:plainElem (H:=Unit) prog 3 (.int .i64 (LC:Int))=some (.lit (.int .i64 (LC:Int)),[]):=plainElem_int underlying3 (by
       have:=Aa HLc
       simp[Lit.wf,IntKind.min,IntKind.max,IntKind.signed,IntKind.bits]
       omega)
      (have hnm:D1 rcs L'<maxLen:=by have:=Aa HSm;unfold maxLen;omega);clear hlow;go_wp2_with (first
       |(at_lookup;refine wpList_lookup_own_int _ rfl _ _ 269 rfl 9 3 .i64 (Maps.string_keyed underlying9) underlying269 underlying3 (zeroValue3 _) MB (D1 rcs L') D rfl hown _ _ rfl hkey ?_;intro c hat hwc;obtain rfl:c=(lx:Int):=(by have h:=hat.symm.trans (HD hn);rw[Aa HLX]at h;simpa using h);clear hat hwc)
       |(at_mapUpdate;refine wpList_mapUpdate_own _ rfl _ _ _ 269 rfl 9 3 (Maps.string_keyed underlying9) underlying269 _ MB (D1 rcs L') D rfl hown hnm _ _ (Rv hn) rfl rfl hkey _ [] hval ?_;intro w4 hown4 hgrow4))
      have HM4:Hid (D0 w4 MB (D1 rcs (Oc L' hn LC)) (Oc L' hn LC)):=(D0.put HDm HD hown4).mono (HLt LC (by have:=Aa HLX;omega));have HK4:Hid (Ac [] w w4):=HK3.grown hgrow4 (λq hq=>Or.inr (by simp only[eD]at hq;have:=Aa HMB;omega));have HF4:Hid ((rcs.take (k+1)).foldl Ea (L,false)=(Oc L' hn LC,true)):=by show _=_;rw[Aa De,Aa HRc,eI (by have:=Aa HLX;omega)]
      go_roundg (pcs.length-(k+1))
      case measure=>have:=Aa HG2;omega
      case rel=>exact⟨k+1,true,Oc L' hn LC,rfl,by go_num,by omega,rfl,HF4,HM4,HK4⟩
     ·(have hlowi:¬(lx:Int)<(LC:Int):=by omega);(have HF4:Hid ((rcs.take (k+1)).foldl Ea (L,false)=(L',m)):=by show _=_;rw[Aa De,Aa HRc,eE (by have:=Aa HLX;omega)]);clear hlow;go_wp2_with (at_lookup;refine wpList_lookup_own_int _ rfl _ _ 269 rfl 9 3 .i64 (Maps.string_keyed underlying9) underlying269 underlying3 (zeroValue3 _) MB (D1 rcs L') D rfl hown _ _ rfl hkey ?_;intro c hat hwc;obtain rfl:c=(lx:Int):=(by have h:=hat.symm.trans (HD hn);rw[Aa HLX]at h;simpa using h);clear hat hwc)
      go_roundg (pcs.length-(k+1))
      case measure=>have:=Aa HG2;omega
      case rel=>exact⟨k+1,m,L',rfl,by go_num,by omega,rfl,HF4,HM3,HK3⟩
    .have HRa:Hid (KM rcs L=(L',m)):=by
      have h:=Aa HFo;rw[eu (by have:=Aa HRl;omega)]at h;exact h
     have HSp:=Ab (VO HLk HLe);go_wp2_with fail
     go_roundg (if m then D1 rcs zM-D1 rcs L'+2 else 1)
     case measure=>
      have h1:=Aa HSp;rw[Aa HRa]at h1;have h2:=Aa HG;simp only[if_true]at h2;cases m with
      |true=>
       have h3:=h1.2.2.1 rfl;have h4:=h1.2.2.2;simp only at h3 h4;simp only[if_true];omega
      |false=>
       simp only[ev,if_false];omega
     case rel=>
      refine⟨m,L',rfl,rfl,HM,λx=>HUp.1 x,λhm=>?_,HK⟩;have h1:=HSp.2.1;rw[Aa HRa]at h1;obtain⟨h2,h3⟩:=h1 hm;simp only at h2;rw[h2];exact h3
theorem Tryz.yQ:(Tryz.prog.info? 221).map (λi=>(i.zero,i.size,i.bytes))=V (V (U Y 0 0),1,24):=by kernel_rfl
abbrev Og:=List Nat×j8
structure DK(w:j7)(base:Nat)(pv:j8)(ps:List Og):Prop where
 row:jG w base 221 1 pv (Z ps) (ps.flatMap λp=>[p.2])
 each:∀p∈ps,jG w base 3 1 p.2 (Z p.1) (p.1.flatMap BW)
 apart:ps.Pairwise λa b=>∀q,a.2.ownBlock=V q->b.2.ownBlock≠V q
def DK.kept{w w':j7}{base:Nat}{b:j8}{a:List Og}(h:DK w base b a)(k:Ac [] w w'):DK w' base b a:=⟨Ad h.row k (by simp),λp c=>Ad (h.each p c) k (by simp),h.apart⟩
def X8{w w':j7}{v:j8}{base d n m:Nat}{l:List j8}{a:j8}{c:List j8}(h:jG w base 3 1 v n l)(b:jG w d 221 1 a m c)(f:w.grownBy w' a.ownBlock):jG w' base 3 1 v n l:=
 fT h f (by
  cases hp:v.ownBlock with
  |none=>exact j5 rfl
  |some q=>exact j6 (λe=>A5 h b (by decide) q hp e.symm))
def QZ{w:j7}{base:Nat}{l:j8}{a:List Og}(h:DK w base l a)(k:Nat)(i:k<Z a):∃g j f b,l=U (V ⟨g,0,Y⟩) (Z a) j/\a[k].2=U f a[k].1.length b/\jF w ⟨g,k,Y⟩=V (U f a[k].1.length b):=by
 obtain⟨g,j,m,_,n⟩:=AC h.row (λc _=>rfl) k i;have d:=n k i 0 (by omega);obtain⟨f,b,e⟩:=Ak (h.each _ (eo i));simp[e]at d;exact⟨g,j,f,b,m,e,d⟩
structure Hn(f:Nat->Nat)(k:Nat)(ps:List Og):Prop where
 lists:∀j (hj:j<Z ps),ps[j].1=(List.range k).filter λi=>f i==j
 top:∀i,i<k->f i<Z ps
 len:Z ps<=1001
def Hn.more{f:Nat->Nat}{k:Nat}{a:List Og}(h:Hn f k a)(l:Z a<=1000)(v:j8):Hn f k (a++[([],v)]):=by
 refine⟨λj d=>?_,λi b=>by have:=h.top i b;simp;omega,by simp;omega⟩;by_cases c:j<Z a
 .rw[fL c];exact h.lists j c
 .have e:j=Z a:=by simp at d;omega
  subst e;rw[List.getElem_append_right (eM _)];simp only[Nat.sub_self,iT]
  symm
  rw[jk];intro i b g;have m:=h.top i (jq.1 b);have:f i=Z a:=by simpa using g
  omega
def Hn.put{f:Nat->Nat}{k:Nat}{a:List Og}(h:Hn f k a)(b:f k<Z a)(v:j8):Hn f (k+1) (a.set (f k) (a[f k].1++[k],v)):=by
 refine⟨λj c=>?_,λi l=>?_,by rw[fY];exact h.len⟩
 .have d:j<Z a:=by rw[fY]at c;exact c
  rw[List.range_succ,ii,List.getElem_set];split
  .rename_i e;subst e;simp only;rw[h.lists _ b]
   congr 1
   simp
  .rename_i e;rw[h.lists j d];(have:([k].filter λi=>f i==j)=[]:=by simp;exact e);rw[this,fh]
 .rw[fY];by_cases g:i=k
  .rw[g];exact b
  .exact h.top i (by omega)
def Ye(b:List Og)(j:Nat)(x:Og):(b.set j x).flatMap (λp=>[p.2])=(b.flatMap λp=>[p.2]).set j x.2:=by
 have e:∀l:List Og,l.flatMap (λp=>[p.2])=l.map λp=>p.2:=λl=>by
  induction l with
  |nil=>rfl
  |cons a l ih=>simp[ih]
 rw[e,e,jE]
def DK.put{w o w':j7}{base:Nat}{g cap:Nat}{c:List Og}{j:Nat}(r:j<Z c){x:Og}(h:DK w base (U (V ⟨g,0,Y⟩) (Z c) cap) c)(C:w.grownBy o c[j].2.ownBlock)(I:jG o base 3 1 x.2 (Z x.1) (x.1.flatMap BW))(B:∀q,x.2.ownBlock=V q->c[j].2.ownBlock=V q\/w.heap.size<=q)
  (A:w'=o.setCell ⟨g,j,Y⟩ x.2):DK w' base (U (V ⟨g,0,Y⟩) (Z c) cap) (c.set j x):=by
 have L:=h.each _ (eo r);have D:jG o base 221 1 (U (V ⟨g,0,Y⟩) (Z c) cap) (Z c) (c.flatMap λp=>[p.2]):=fT h.row C (j6 (λe=>A5 h.row L (by decide) g rfl e.symm));have G:∀i (f:i<Z c),i≠j->jG o base 3 1 c[i].2 c[i].1.length (c[i].1.flatMap BW):=λi f F=>fT (h.each _ (eo f)) C (by
  cases s:c[i].2.ownBlock with
  |none=>exact j5 rfl
  |some q=>
   refine j6 (λe=>?_)
   have l:=gH.1 h.apart
   rcases Nat.lt_or_gt_of_ne F with d|d
   .exact l i j f r d q s e.symm
   .exact l j i r f d q e.symm s)
 have E:∀{v:j8} {n:Nat} {z:List j8},jG o base 3 1 v n z->jG w' base 3 1 v n z:=fun{v n z} hv=>by
  rw[A];exact Ag hv (λe=>A5 hv D (by decide) g e rfl) _
 refine⟨?_,λp s=>?_,?_⟩
 .rw[fY,Ye,A];exact BE D j x.2
 .obtain⟨i,f,rfl⟩:=fj s;rw[fY]at f;rw[List.getElem_set];split
  .exact E I
  .rename_i e;exact E (G i f (λH=>e H.symm))
 .have l:=gH.1 h.apart;refine gH.2 (λa b u t y q m k=>?_);rw[fY]at u t;rw[List.getElem_set]at m k;split at m
  .rename_i e;subst e;rw[eE (by omega)]at k;rcases B q m with d|d
   .exact l j b r t y q d k
   .have:=((h.each _ (eo t)).lt q k).2;omega
  .split at k
   .rename_i e;subst e;rcases B q k with d|d
    .exact l a j u r y q m d
    .have:=((h.each _ (eo u)).lt q m).2;omega
   .exact l a b u t y q m k
def Gm(pcs:List Dq)(i:Nat):g0:=((pcs[i]?).map Dq.hn).getD ByteArray.empty
def Xg(pcs:List Dq)(rcs:List A8)(zM:g0->Nat)(w:j7)(r:Ending)(w':j7):Prop:=∃(ad:Option Addr) (cp:Nat) (ps:List Og) (L:g0->Nat),r=.returned (U ad (Z ps) cp)/\DK w' w.heap.size (U ad (Z ps) cp) ps/\Hn (λi=>L (Gm pcs i)) (Z pcs) ps/\Di rcs L/\(∀x,L x<=zM x)/\Ac [] w w'
theorem VP(HL:Option Addr)(HH:Nat)(m:List Dq)(AB:List A8)(w:j7)(AH:g0->Nat)(hP:DG w (U HL (Z m) HH) m)(hC:F2 R3 m AB)(K4:Z m<=1000)(IJ:∀c∈m,Z c.zC<=1000)(FF:∀c∈m,c.hn.size<=1000000/\∀p∈c.zC,p.1.an.size<=1000000)(hL:Di AB AH)(HN:∀x,AH x<=1000)(H1:D1 AB AH<=100000):
  Calls prog 123 #[U HL (Z m) HH] w λr w'=>Xg m AB AH w r w':=by
 obtain⟨i0,NN,LE,NY,Nx⟩:=fC Tryz.yQ;obtain⟨j0,K8,NM,K1,LM⟩:=fC Tryz.yA;have Os:=Ab hP;have K7:=Ab FF;have Mo:=Ab HN;have H3:=Ab (Mv HL HH m AB w AH hP hC K4 IJ FF hL HN H1);obtain⟨z,H5⟩:∃z,w.heap.size=z:=⟨_,rfl⟩;have W:=Ab H5;clear hP hC IJ FF hL HN H1 H5;go_enter func123,ntmps123;go_wp2_with fail
 refine H3.mono ?_;rintro _ w1 ⟨H,n,L,rfl,hM,H9,KK,N2,k1⟩;have KB:=Ab hM;have K3:=Ab H9;have HX:=Ab KK;have HQ:=Ab k1;have OH:j9 (z<=H):=by have:=Aa W;show z<=H;omega
 clear H3 hM H9 KK N2 k1;go_wp2_with fail
 go_loopg [4,12] (Z m) (λgk pv i wr=>∃(k:Nat) (f:List Og) (E:Option Addr) (y:Nat),pv=U E (Z f) y/\i=X J k/\k<=Z m/\gk=Z m-k/\j9 (Hn (λi=>L (Gm m i)) k f)/\j9 (DK wr z (U E (Z f) y) f)/\j9 (D0 wr H n L)/\j9 (Ac [] w wr))
 case atStart=>exact⟨0,[],Y,0,rfl,rfl,by omega,rfl,⟨λj hj=>by simp at hj,λi hi=>by omega,by simp⟩,⟨eU _ _ _ _,λp P=>by simp at P,List.Pairwise.nil⟩,KB,HQ⟩
 case round=>
  clear KB HQ;obtain⟨k,f,E,y,rfl,rfl,hk,JJ,S,F,Q,N⟩:=hrel;have HG:=Ab JJ;clear JJ;by_cases FP:k<Z m
  .obtain⟨g,NX,P,I,EK,EX,B0,CL,B9,B2,he,FO,d0,d1,d2,d3⟩:=Fh (Os.kept N) k FP;simp only[ei]at he;obtain⟨rfl,-,rfl⟩:=he;have FA:=(K7 _ (eo FP)).1;rw[FO]at FA;have H4:=Wo FA;have Nd:j9 (Gm m k=I):=by
    show _=_;unfold Gm;rw[ez FP,FO];rfl
   (have M2:L I<=1000:=by have:=Aa HX I;have:=Aa Mo I;omega);have HB:=Ab (N.alloc (j1 #[X J P,O I,U EX (Z EK) B0,U CL (Z B2) B9] 189));have FB:=Q.zU ((Ac.refl [] wr).alloc (j1 #[X J P,O I,U EX (Z EK) B0,U CL (Z B2) B9] 189)) (by simp);have HJ:=Ab FB;have BA:=Ab (F.kept ((Ac.refl [] wr).alloc (j1 #[X J P,O I,U EX (Z EK) B0,U CL (Z B2) B9] 189)));obtain⟨D,H8,NB,hD⟩:=FB.at_;have HD:=Ab (hD I);obtain⟨l,HA⟩:∃l,L I=l:=⟨_,rfl⟩;rw[HA]at HD M2;(have LB:j9 (L (Gm m k)=l):=by show _=_;rw[Aa Nd];exact HA);clear FB NB hD FA FO HA F Q N;go_wp2_with (at_lookup;refine wpList_lookup_own_int _ rfl _ _ 269 rfl 9 3 J (Maps.string_keyed underlying9) underlying269 underlying3 (zeroValue3 _) H n D rfl H8 _ _ rfl H4 ?_;intro c Jx NA;obtain rfl:c=(l:Int):=(by have h:=Jx.symm.trans HD;simpa using h);clear Jx NA)
   clear H8 HD H4 d0 d1 d2 d3;generalize wr.alloc (j1 #[X J P,O I,U EX (Z EK) B0,U CL (Z B2) B9] 189)=wa at HB HJ BA⊢
   go_loopg [4] (l+2-Z f) (λN4 pv wq=>∃(f:List Og) (E:Option Addr) (y:Nat),pv=U E (Z f) y/\N4=l+2-Z f/\j9 (Hn (λi=>L (Gm m i)) k f)/\j9 (DK wq z (U E (Z f) y) f)/\j9 (D0 wq H n L)/\j9 (Ac [] w wq))
   case atStart=>exact⟨f,E,y,rfl,rfl,S,BA,HJ,HB⟩
   case round=>
    clear S BA HJ HB;obtain⟨f,E,y,rfl,KA,S,F,Q,N⟩:=hrel;have Nq:=Ab KA;clear KA;(have RE:z<=wr.heap.size:=by have:=N.size;have:=Aa W;omega);by_cases P0:Z f<=l
    ·(have M1:(Z f:Int)<=(l:Int):=by omega);have v:=F.row;go_wp2_with (at_builtin;refine eP _ rfl (.tmp 26) (.tmp 27) _ rfl z 221 i0 _ 1 24 underlying219 NN LE NY Nx rfl (by omega) (U E (Z f) y) (Z f) (f.flatMap λp=>[p.2]) rfl (eC v _) ⟨wr.heap.size,0,Y⟩ 1 1 [U Y 0 0] rfl rfl (eS (cs:=#[U Y 0 0]) (t:=221) (fr:=(0,0)) (fe wr _)) (by simp[Value.oneCell']) (by omega) (by unfold maxLen;omega) (by omega) (by simp;omega) (wr.heap.size+1) (by simp) ?_;intro G C u A0 A BT FL)
     have CC:=Ab (S.more (by omega) (U Y 0 0));have AT:j9 (DK u z (U (V ⟨G,0,Y⟩) (Z (f++[([],U Y 0 0)])) C) (f++[([],U Y 0 0)])):=by
      refine⟨?_,λp P=>?_,?_⟩
      .rw[eY];simp only[eJ,eF,fb,fw,eN,fF,fh];exact A0
      .rcases eG.1 P with h|h
       .exact X8 (eC (F.each p h) _) (eC v _) A
       .simp only[ex]at h;subst h;exact eU _ _ _ _
      .rw[i6];refine⟨F.apart,by simp,λa ha b B q _ s=>?_⟩;simp only[ex]at B;subst B;simp[jN]at s
     have HO:Ac [] w u:=(N.alloc (j1 #[U Y 0 0] 221)).grown A (λq s=>j6 (by have:=(v.lt q s).1;have:=Aa W;omega));have EY:j9 (D0 u H n L):=by
      have EM:=Q.zU ((Ac.refl [] wr).alloc (j1 #[U Y 0 0] 221)) (by simp);refine EM.zU (M:=(U E (Z f) y).ownBlock.toList) ((Ac.refl _ _).grown A (λq s=>j5 (by rw[s];simp))) (λT=>?_);obtain⟨D,⟨es,HT,B,_⟩,_⟩:=EM.at_;rcases(eC v (j1 #[U Y 0 0] 221)).2 with⟨e,_⟩|⟨g',c',HS,e,_,A1,_⟩
      .rw[e]at T;simp[jN]at T
      .rw[e]at T;simp[jN]at T;subst T;rw[A1]at B;cases B
     have DT:=Ab HO;clear A0 A BT FL v HO
     go_roundg (l+2-(Z f+1))
     case measure=>have:=Aa Nq;omega
     case rel=>exact⟨f++[([],U Y 0 0)],V ⟨G,0,Y⟩,C,by simp,by simp,CC,AT,EY,DT⟩
    ·(have M1:¬(Z f:Int)<=(l:Int):=by omega);(have R:l<Z f:=by omega);(have QQ:(0:Int)<=(l:Int):=by omega);(have RB:(l:Int)<(Z f:Int):=by omega);obtain⟨g,NX,Ax,BS,he,hv,HY⟩:=QZ F l R;simp only[ei]at he;obtain⟨rfl,-,rfl⟩:=he;have v:=F.each _ (eo R);rw[hv]at v;have HV:=Ab hv;have NL:f[l].1.length<=1000:=by
      rw[(Aa S).lists l R];have:=fZ (λi=>L (Gm m i)==l) (List.range k);rw[List.length_range]at this;omega
     obtain⟨o,HI⟩:∃o,f[l].1=o:=⟨_,rfl⟩;have NV:=Ab HI;rw[HI]at v NL HY HV;clear HI hv;have Bx:=F.row;have BA:=Ab (F.kept ((Ac.refl [] wr).alloc (j1 #[X J k] 3)));have M0:j9 (∀u:j7,(wr.alloc (j1 #[X J k] 3)).grownBy u (U Ax (Z o) BS).ownBlock->jG u z 221 1 (U (V ⟨g,0,Y⟩) (Z f) y) (Z f) (f.flatMap λp=>[p.2])/\u.frozen? ⟨g,l,Y⟩=false/\jF u ⟨g,l,Y⟩=V (U Ax (Z o) BS)):=by
      intro u A;have HC:jG u z 221 1 (U (V ⟨g,0,Y⟩) (Z f) y) (Z f) (f.flatMap λp=>[p.2]):=fT (eC Bx (j1 #[X J k] 3)) A (j6 (λe=>A5 Bx v (by decide) g rfl e.symm));obtain⟨g',Pl,HR,_,LS⟩:=AC HC (λc _=>rfl) l R;simp only[ei,eD,fm]at HR;obtain⟨⟨rfl,-,-⟩,-,-⟩:=HR;have d:=LS l R 0 (by omega);simp[Aa HV]at d;exact⟨HC,HC.frozenAt l,d⟩
     go_wp2_with (at_builtin;refine eP _ rfl (.tmp 34) (.tmp 36) _ rfl z 3 j0 _ 1 8 underlying221 K8 NM K1 LM rfl (by omega) (U Ax (Z o) BS) (Z o) (o.flatMap BW) rfl (eC v _) ⟨wr.heap.size,0,Y⟩ 1 1 [X J k] rfl rfl (eS (cs:=#[X J k]) (t:=3) (fr:=(0,0)) (fe wr _)) (by simp[Value.oneCell']) (by omega) (by unfold maxLen;omega) (by omega) (by simp;omega) (wr.heap.size+1) (by simp) ?_;intro G C u A0 A BT FL;have n9:=Aa M0 u A;have f9:=n9.2.1;have c9:=n9.2.2;clear n9)
     have hx:jG u z 3 1 (U (V ⟨G,0,Y⟩) (Z (o++[k])) C) (Z (o++[k])) ((o++[k]).flatMap BW):=by
      rw[eY];simp only[eJ,eF,fb,fw,eN,fF,fh];exact A0
     have AT:=Ab (DK.put (x:=(o++[k],U (V ⟨G,0,Y⟩) (Z (o++[k])) C)) R BA (by rw[Aa HV];exact A) hx (λq s=>by
      simp only[jN,eD]at s
      subst s
      rw[Aa HV]
      rcases BT with h|h
      .exact j5 h
      .exact j6 (by simp;omega)) rfl)
     have CC:j9 (Hn (λi=>L (Gm m i)) (k+1) (f.set l (o++[k],U (V ⟨G,0,Y⟩) (Z (o++[k])) C))):=by
      have hf:=Aa LB;have h:=S.put (by simp only[hf];exact R) (U (V ⟨G,0,Y⟩) (Z (o++[k])) C);simp only[hf]at h;rw[Aa NV]at h;exact h
     have K6:=eC v (j1 #[X J k] 3);have HW:∀q,(U Ax (Z o) BS).ownBlock=V q->q≠H:=by
      intro q s e;subst e;obtain⟨D,⟨es,HT,B,_⟩,_⟩:=Q.at_;rcases v.2 with⟨e,_⟩|⟨g',c',HS,e,_,A1,_⟩
      .rw[e]at s;simp[jN]at s
      .rw[e]at s;simp[jN]at s;subst s;rw[A1]at B;cases B
     have M6:g≠H:=by
      intro e;subst e;obtain⟨D,⟨es,HT,B,_⟩,_⟩:=Q.at_;rcases Bx.2 with⟨e,_⟩|⟨g',c',HS,e,_,A1,_⟩
      .cases e
      .simp only[ei,eD,fm]at e;obtain⟨⟨rfl,-,-⟩,-,-⟩:=e;rw[A1]at B;cases B
     have EY:j9 (D0 (u.setCell ⟨g,l,Y⟩ (U (V ⟨G,0,Y⟩) (Z o+1) C)) H n L):=by
      have EM:=Q.zU ((Ac.refl [] wr).alloc (j1 #[X J k] 3)) (by simp);have MN:=EM.zU (M:=(U Ax (Z o) BS).ownBlock.toList) ((Ac.refl _ _).grown A (λq s=>j5 (by rw[s];simp))) (λT=>HW H (by simpa using T) rfl);exact MN.zU (M:=[g]) ((Ac.refl [g] u).setCell (p:=⟨g,l,Y⟩) (j5 (by simp)) _) (by simp;exact λe=>M6 e.symm)
     have DT:=Ab (((N.alloc (j1 #[X J k] 3)).grown A (λq s=>j6 (by have:=(v.lt q s).1;have:=Aa W;omega))).setCell (p:=⟨g,l,Y⟩) (j6 (by have:=(Bx.lt g rfl).1;have:=Aa W;simp;omega)) (U (V ⟨G,0,Y⟩) (Z o+1) C));simp only[eJ,eF,fb,fw]at AT CC;generalize u.setCell ⟨g,l,Y⟩ (U (V ⟨G,0,Y⟩) (Z o+1) C)=wz at AT EY DT⊢;clear A0 A BT FL v Bx f9 c9 hx K6 HW HY;go_wp2
     go_roundg (Z m-(k+1))
     case measure=>have:=Aa HG;omega
     case rel=>exact⟨k+1,f.set l (o++[k],U (V ⟨G,0,Y⟩) (Z o+1) C),V ⟨g,0,Y⟩,y,by simp,by go_num,by omega,rfl,CC,by rw[fY];exact AT,EY,DT⟩
  .have MB:j9 (Hn (λi=>L (Gm m i)) (Z m) f):=by
    (have e:k=Z m:=by omega);have h:=Aa S;rw[e]at h;exact h
   go_wp2;go_ret;exact⟨E,y,f,L,rfl,by rw[Aa W];exact F,MB,K3,HX,N⟩
structure Gq(w w':j7):Prop where
 size:w.heap.size<=w'.heap.size
 at_:∀(q:Nat) (cs:Array j8) (t:TypeId) (fr:Nat×Nat),w.heap[q]?=V (j1 cs t fr)->t≠139->t≠104->t≠176->w'.heap[q]?=V (j1 cs t fr)
def Gq.refl(w:j7):Gq w w:=⟨eM _,λ_ _ _ _ h _ _ _=>h⟩
def Gq.trans{a b c:j7}(h:Gq a b)(k:Gq b c):Gq a c:=⟨fJ h.size k.size,λq e t i j f d g=>k.at_ q e t i (h.at_ q e t i j f d g) f d g⟩
def Gq.of{M:List Nat}{w w':j7}(k:Ac M w w')(g:∀q∈M,∃(c:Array j8) (t:TypeId) (d:Nat×Nat),w.heap[q]?=V (j1 c t d)/\(t=139\/t=104\/t=176)):Gq w w':=by
 refine⟨k.size,λq c t d a i f l=>?_⟩;rw[k.block q (fx.1 a).1 (λe=>?_)]
 .exact a
 .obtain⟨m,n,o,b,j⟩:=g q e;rw[a]at b;simp only[eD,Obj.cells.injEq]at b;obtain⟨_,rfl,_⟩:=b;rcases j with h|h|h
  .exact i h
  .exact f h
  .exact l h
def Gq.kept{w w':j7}(k:Ac [] w w'):Gq w w':=Gq.of k (λq a=>by simp at a)
def Gq.row{w w':j7}(h:Gq w w'){base e a n:Nat}{v:j8}{d:List j8}(b:jG w base e a v n d)(k:e≠139)(j:e≠104)(p:e≠176):jG w' base e a v n d:=by
 refine⟨b.1,?_⟩;rcases b.2 with l|⟨g,c,f,rfl,o,r,s,i,q,m⟩
 .exact j5 l
 .exact j6 ⟨g,c,f,rfl,o,h.at_ _ _ _ _ r k j p,s,i,q,m⟩
def WU{w:j7}{b:Nat}{cs:List j8}{t:TypeId}(h:AI w b cs t):∃(c:Array j8) (a:TypeId) (d:Nat×Nat),w.heap[b]?=V (j1 c a d)/\a=t:=⟨_,_,_,h,rfl⟩
def W4{w:j7}{base e d n:Nat}{v:j8}{i:List j8}(h:jG w base e d v n i){q:Nat}(a:v.ownBlock=V q):∃(f:Array j8) (b:TypeId) (k:Nat×Nat),w.heap[q]?=V (j1 f b k)/\b=e:=by
 rcases h.2 with⟨rfl,_⟩|⟨g,c,l,rfl,_,j,_⟩
 .simp[jN]at a
 .simp only[jN,eD]at a;subst a;exact⟨_,_,_,j,rfl⟩
def BU(p:Nat×Si):List j8:=Jz p.1 p.2
structure U4(w:j7)(B:Nat)(kv:j8)(hs:List (Nat×Gp Af))(sts:List (Nat×Si)):Prop where
 eq:sts.map (λp=>(p.1,p.2.f.f,p.2.ns.map Fe.f))=hs.map λh=>(h.1,BJ h.2.head,h.2.pos.map BJ)
 each:∀p∈sts,J1 w p.2/\∀q,p.2.n.ownBlock=V q->B<=q/\kv.ownBlock≠V q
def U4.kept{w w':j7}{B:Nat}{c:j8}{a:List (Nat×Gp Af)}{d:List (Nat×Si)}(h:U4 w B c a d)(k:Ac [] w w'):U4 w' B c a d:=⟨h.eq,λp b=>⟨(h.each p b).1.kept k,(h.each p b).2⟩⟩
structure Mq(w0:j7)(cb:Nat)(clv:j8)(X Y:List Nat)(s:List Af)(hs:List (Nat×Gp Af))(w:j7):Prop where
 kept:Ac [] w0 w
 cb_:w0.heap.size<=cb
 out:∃(sad:Option Addr) (scp:Nat) (fs:List Fe) (tad:Option Addr) (tcp:Nat) (sts:List (Nat×Si)),AI w cb [clv,U sad (Z fs) scp,U tad (Z s) tcp] 139/\Lx w (U sad (Z fs) scp) fs/\Dl fs s/\
  jG w w0.heap.size 176 4 (U tad (Z s) tcp) (Z s) (sts.flatMap BU)/\(∀q,(U sad (Z fs) scp).ownBlock=V q->w0.heap.size<=q/\q∉Y)/\(∀q,(U tad (Z s) tcp).ownBlock=V q->q∉X)/\U4 w w0.heap.size (U sad (Z fs) scp) hs sts
def Mq.grow{w0 w w':j7}{a:Nat}{d:j8}{X b:List Nat}{s:List Af}{c:List (Nat×Gp Af)}(h:Mq w0 a d X b s c w)(k:Ac [] w w'):Mq w0 a d X b s c w':=by
 obtain⟨t,j,q,g,f,l,n,i,r,m,p,e,o⟩:=h.out;exact⟨h.kept.trans k,h.cb_,t,j,q,g,f,l,n.kept k (by simp),i.kept k,r,Ad m k (by simp),p,e,o.kept k⟩
noncomputable abbrev dA:A8->List Af->UInt8->List g0->List g0:=λc s=>Kv (Aj c) s
noncomputable abbrev G8(r:A8)(s:List Af):List Af:=Qb (Kv (Aj r) s) r (Cl r) (C2 r) s
structure WV(pcs:List Dq)(J:List (Nat×Gp Af)->List Af->Prop)(num:Nat)(r:A8)(hs:List (Nat×Gp Af))(s:List Af):Prop where
 lt:num<Z pcs
 cl:OT (pcs[num]'lt) r s
 nd:(G8 r s).Nodup
 new:∀f∈G8 r s,f∉s/\AM f/\Z f.args<=1000
 len:Z (G8 r s)<=100000
 mid:∀IS:List (Gp Af),IS.map Gp.head=G8 r s->(∀i∈IS,∃σ,(∀x∈Aj r,Cg (Bh σ) (DU σ) s x=true)/\i=CR r σ)->∀j,J (hs++(IS.take j).map (Prod.mk num)) (((G8 r s).take j).foldl AY s)
def Ry{s:List Af}{l:List Af}{j:Nat}(a:j<Z l):(l.take (j+1)).foldl AY s=AY ((l.take j).foldl AY s) l[j]:=by
 rw[ep a,fE];rfl
def ZI{l:List Af}{s:List Af}(t:EI s)(v:∀f∈s,AM f)(x:l.Nodup)(h:∀f∈l,f∉s/\AM f):∀j (c:j<Z l),EI ((l.take j).foldl AY s)/\(∀f∈(l.take j).foldl AY s,AM f)/\(∀f,f∈(l.take j).foldl AY s↔f∈s\/f∈l.take j)/\l[j]∉(l.take j).foldl AY s:=by
 have p:∀j,j<=Z l->EI ((l.take j).foldl AY s)/\(∀f∈(l.take j).foldl AY s,AM f)/\(∀f,f∈(l.take j).foldl AY s↔f∈s\/f∈l.take j):=by
  intro j
  induction j with
  |zero=>intro _;exact⟨t,v,λf=>by simp⟩
  |succ j ih=>
   intro c;obtain⟨o,k,d⟩:=ih (by omega);(have g:j<Z l:=by omega);have u:=(h _ (eo g)).2;obtain⟨a,b,m⟩:=DC u o k;rw[Ry g];refine⟨a,b,λf=>?_⟩;rw[m,d,ep g,eG,ex,or_assoc]
 intro j c;obtain⟨o,k,d⟩:=p j (by omega);refine⟨o,k,d,λq=>?_⟩;rcases(d _).1 q with n|n
 .exact(h _ (eo c)).1 n
 .obtain⟨i,w,e⟩:=fj n;rw[ft]at w;rw[iN]at e;have r:=gH.1 x i j (by omega) c (by omega);exact r e
def aH(f:Af):Z (BJ f).zB=Z f.args:=by unfold BJ;simp
theorem ZB(HS:List (Nat×Gp Af)->List Af->Prop)(w0:j7)(y:Nat)(B0:Option Addr)(BT:Nat)(AT:List Dq)(b2:Option Addr)(X3:Nat)(ns:List Nat)(ds:List A8)(s:List Af)(hs:List (Nat×Gp Af))(w:j7)(hP:DG w0 (U B0 (Z AT) BT) AT)(c0:Z AT<=1000)(gs:Z ns<=1000)
  (hY:jG w 0 3 1 (U b2 (Z ns) X3) (Z ns) (ns.flatMap BW)) (hC:Mq w0 y (U B0 (Z AT) BT) [] [] s hs w) (hJ:HS hs s) (al:∀hs s,HS hs s->EI s/\(∀f∈s,AM f)/\Z s<=9000)
  (W2:∀hs s,HS hs s->F2 (λz r=>WV AT HS z r hs s) ns ds):
  Calls prog 124 #[j3 (V ⟨y,0,Y⟩),U b2 (Z ns) X3] w λr w'=>∃s' bb,s'=(Fn (Ed dA) ds s).1/\r=.returned (.bool (decide (Z s<Z s')))/\HS bb s'/\Mq w0 y (U B0 (Z AT) BT) [] [] s' bb w'/\Gq w w':=by
 obtain⟨i0,et,db,e4,eh⟩:=fC Tryz.zq;have cL:=Ab hP;have df:=Ab hY;have ZV:=Ab hC;have HJ:=Ab hJ;have a8:=Ab al;have e8:=Ab W2;have XS:j9 (Z ns=Z ds):=(W2 hs s hJ).lenX;obtain⟨f3,f1,f9,gb,fy,gt,a2,_⟩:=hC.out;have c2:=a2.cell 2;simp at c2;obtain⟨S0,RV⟩:∃S0,Z s=S0:=⟨_,rfl⟩;have c1:=Ab RV;rw[RV]at c2;clear hP hY hC hJ al W2 a2 RV;go_enter func124,ntmps124;go_wp2_with fail
 clear c2
 go_loopg [17] (Z ns) (λgk i wr=>∃(k:Nat) (u:List Af) (B2:List (Nat×Gp Af)),i=X J k/\k<=Z ns/\gk=Z ns-k/\j9 (u=((ds.take k).foldl (IZ (Ed dA)) (s,false)).1)/\j9 (HS B2 u)/\j9 (Mq w0 y (U B0 (Z AT) BT) [] [] u B2 wr)/\j9 (Gq w wr))
 case atStart=>exact⟨0,s,hs,rfl,by omega,rfl,rfl,HJ,ZV,Gq.refl _⟩
 case round=>
  clear ZV HJ;obtain⟨k,u,B2,rfl,hk,cr,X1,VR,HD,MN⟩:=hrel;have HG:=Ab cr;clear cr;by_cases af:k<Z ns
  ·(have b0:k<Z ds:=by have:=Aa XS;omega);have HO:=(e8 B2 u VR).at k af b0;obtain⟨yg,gf,he,cy⟩:=W5 (MN.row df (by decide) (by decide) (by decide)) k af;simp only[ei]at he;obtain⟨rfl,-,rfl⟩:=he;obtain⟨z,cz⟩:∃z,ns[k]=z:=⟨_,rfl⟩;rw[cz]at cy HO;obtain⟨r,T⟩:∃r,ds[k]=r:=⟨_,rfl⟩;rw[T]at HO;have De:j9 (((ds.take (k+1)).foldl (IZ (Ed dA)) (s,false)).1=(G8 r u).foldl AY u):=by
    show _=_;rw[ep b0,fE,T];have h:=Aa X1;rw[fd,List.foldl_nil];generalize(ds.take k).foldl (IZ (Ed dA)) (s,false)=acc at h⊢;rw[h];rfl
   clear cz T;obtain⟨EY,EK,P,Ax,W,xs,hb,HP,HT,H2,H5,hX,KS⟩:=(Aa HD).out;have b7:=Ab (Sg y z B0 BT AT EY EK P (U Ax (Z u) W) r u wr HO.lt c0 hb (by exact(Aa cL).kept (Aa HD).kept) HP HT HO.cl HO.len);have HN:=Ab HO;(have ge:(0:Int)<=(k:Int):=by omega);(have f2:(k:Int)<(Z ns:Int):=by omega);have a9:j9 (∀w2 nv nn X2 (A:List Si),Ac [] wr w2->jG w2 wr.heap.size 176 4 nv nn X2->(∀m∈A,J1 w2 m/\aN wr.heap.size r u m)->Mq w0 y (U B0 (Z AT) BT) nv.ownBlock.toList (A.filterMap λm=>m.n.ownBlock) u B2 w2):=λw2 nv nn X2 A k2 hn A0=>⟨(Aa HD).kept.trans k2,(Aa HD).cb_,EY,EK,P,Ax,W,xs,hb.kept k2 (by simp),HP.kept k2,HT,Ad H2 k2 (by simp),λq d=>⟨(H5 q d).1,λS=>by
    obtain⟨m,Pl,e⟩:=gA.1 S
    have N:=(HP.row.lt q d).2
    have M:=(A0 m Pl).2.1 q e
    omega⟩,λq d S=>by
    have N:=(H2.lt q d).2
    have M:=(hn.lt q (by simpa using S)).1
    omega,KS.kept k2⟩
   clear HO hb HP HT H2 H5 hX KS;(go_wp2_with fail);refine b7.mono ?_;rintro _ w2 ⟨b5,M2,A,rfl,MY,NX,K7,k2⟩;have aT:=Ab (MN.trans (Gq.kept k2));have fp:=Ab MY;have KA:=Ab (Am NX (eV _));(have H1:j9 (∀m∈A,J1 w2 m):=λm A0=>(K7 m A0).1);(have e5:j9 (∀m∈A,∀q,m.n.ownBlock=V q->w0.heap.size<=q):=λm A0 q d=>fJ HD.kept.size ((K7 m A0).2.1 q d));obtain⟨IS,TX,b4,bl⟩:=RA A (G8 r u) MY (λf hf=>(HN.new f hf).2.1) (λm A0=>(K7 m A0).2);have OH:=Ab TX;have en:=Ab bl;have X0:=Ab (HN.mid IS TX b4);clear TX b4 bl;(have f8:Z A=Z (G8 r u):=by have:=congrArg List.length MY;simpa using this);have a6:=Ab (a9 w2 _ _ _ A k2 NX K7);have f5:=HN.len;clear b7 MY NX K7 HD MN a9 cy k2;go_wp2_with fail
   go_loopg [25] (Z A) (λfa i wq=>∃(j:Nat),i=X J j/\j<=Z A/\fa=Z A-j/\j9 (Mq w0 y (U B0 (Z AT) BT) (U b5 (Z A) M2).ownBlock.toList (A.filterMap λm=>m.n.ownBlock) (((G8 r u).take j).foldl AY u) (B2++(IS.take j).map (Prod.mk z)) wq)/\j9 (jG wq 0 176 4 (U b5 (Z A) M2) (Z A) (A.flatMap (Jz z)))/\j9 (∀m∈A,J1 wq m)/\j9 (Gq w wq))
   case atStart=>exact⟨0,rfl,by omega,rfl,(by simpa using a6),KA,H1,aT⟩
   case round=>
    clear a6 KA H1 aT;obtain⟨j,rfl,hj,av,HF,KA,H1,bn⟩:=hrel;have eg:=Ab av;clear av;by_cases FA:j<Z A
    ·(have LL:j<Z (G8 r u):=by omega);obtain⟨g,gp,he,_,Jx⟩:=AC KA (λc _=>rfl) j FA;simp only[ei]at he;obtain⟨rfl,-,rfl⟩:=he;have e0:=Jx j FA 0 (by omega);have e1:=Jx j FA 1 (by omega);have e2:=Jx j FA 2 (by omega);have e3:=Jx j FA 3 (by omega);obtain⟨Mo,TV,H8,R,Q,hn⟩:=H1 _ (eo FA);(have K3:∀q,A[j].n.ownBlock=V q->w0.heap.size<=q/\q∈A.filterMap λm=>m.n.ownBlock:=λq d=>⟨e5 _ (eo FA) q d,gA.2 ⟨_,eo FA,d⟩⟩);(have an:j<Z IS:=by have h:=congrArg List.length OH;rw[eL]at h;omega);(have b6:j9 ((IS.take (j+1)).map (Prod.mk z)=(IS.take j).map (Prod.mk z)++[(z,IS[j])]):=by show _=_;rw[ep an,fi];rfl);have KK:(A[j].f.f,A[j].ns.map Fe.f)=(BJ IS[j].head,IS[j].pos.map BJ):=by
      have h:=congrArg (λl=>l[j]?) en;simp only[fM,ez FA,ez an,gu,eD]at h;exact h
     obtain⟨IJ,a7⟩:∃IJ,IS[j]=IJ:=⟨_,rfl⟩;rw[a7]at b6 KK;clear a7;have K8:A[j].f.f=BJ (G8 r u)[j]:=by
      have h:=congrArg (λl=>l[j]?) fp;simp only[fM,ez FA,ez LL,gu,eD]at h;exact h
     obtain⟨⟨⟨⟨C,BS⟩,fv⟩,nv,WB⟩,A0⟩:∃m,A[j]=m:=⟨_,rfl⟩;rw[A0]at e0 e1 e2 e3 Mo TV hn K8 H8 K3 KK;have em:=Ab A0;obtain⟨E,D,co⟩:=Ak Mo;simp only at co hn TV K8 H8 K3 KK;subst co hn;obtain⟨L,W0⟩:∃L,Z WB=L:=⟨_,rfl⟩;rw[W0]at e0 e1 e2 e3 H8 K3;have d4:=Ab W0;have gl:=Ab H8;have a4:=Ab K3;have er:=Ab KK;clear W0 H8 K3 KK;obtain⟨B,SP⟩:∃B,Z BS=B:=⟨_,rfl⟩;simp[Jz,SP]at e0 e1 e2 e3;obtain⟨F,hF⟩:∃F,(G8 r u)[j]=F:=⟨_,rfl⟩;rw[hF]at K8;have cv:=HN.new F (by rw[<-hF];exact eo LL);have Wa:=Aa a8 B2 u VR;have Nq:=ZI Wa.1 Wa.2.1 HN.nd (λf hf=>⟨(HN.new f hf).1,(HN.new f hf).2.1⟩) j LL;rw[hF]at Nq;(have a0:j9 (((G8 r u).take (j+1)).foldl AY u=AY (((G8 r u).take j).foldl AY u) F):=by show _=_;rw[Ry LL,hF]);have LS:=Aa a8 _ _ (X0 j);obtain⟨SJ,YP⟩:∃SJ,((G8 r u).take j).foldl AY u=SJ:=⟨_,rfl⟩;rw[YP]at HF Nq a0 LS;have ao:=Ab Nq;have H7:=Ab K8;have ef:=Ab Mo;have ST:=Ab cv;have cB:=Ab SP;obtain⟨EY,EK,P,Ax,W,xs,hb,HP,HT,H2,H5,hX,KS⟩:=(Aa HF).out;have c9:=HT.len;have HB:=Ab hb;have SB:=Ab HP;have RB:=Ab HT;have ap:=Ab H2;have W3:=Ab H5;have HX:=Ab hX;have HY:=Ab KS;(have gw:(0:Int)<=(j:Int):=by omega);(have f0:(j:Int)<(Z A:Int):=by omega);obtain⟨H,bp⟩:∃H,Z SJ=H:=⟨_,rfl⟩;have NL:=Ab bp;(have d6:j9 (H<=9000):=by show H<=9000;have:=LS.2.2;omega);(have d3:j9 (Z P<=9000):=by show Z P<=9000;have:=LS.2.2;omega);have Nx:=Ab (AI.new wr [O C,U E B D,X J z,U R L Q] 176);have M6:=Ab ((Ac.refl [] wr).alloc (j1 [O C,U E B D,X J z,U R L Q].toArray 176));clear hb HP HT H2 H5 hX KS Nq cv Wa hF K8 Mo A0 Jx YP LS c9 SP TV bp;refine jT (λK1 DT=>?_);go_wp2;refine DT _ _ ?_;clear DT K1;refine jT (λK1 DT=>?_);go_wp2;refine DT _ _ ?_;clear DT K1;refine jT (λK5 bx=>?_);refine wp_block ?_;refine jT (λK1 DT=>?_);go_wp2;refine DT _ _ ?_;clear DT K1 e0 e1 e2 e3;change Code.wp _ _ _ _ (wr.alloc (j1 [O C,U E B D,X J z,U R L Q].toArray 176));generalize hw3:wr.alloc (j1 [O C,U E B D,X J z,U R L Q].toArray 176)=w3 at Nx M6⊢;clear hw3;obtain⟨G,W1⟩:∃G,wr.heap.size=G:=⟨_,rfl⟩;have dT:=Ab W1;rw[W1]at Nx⊢;clear W1;have VL:j9 (∀o,AI o G [O C,U E B D,X J z,U R L Q] 176->jF o ⟨G,0,Y⟩=V (O C)/\jF o ⟨G,1,Y⟩=V (U E B D)/\jF o ⟨G,2,Y⟩=V (X J z)/\jF o ⟨G,3,Y⟩=V (U R L Q)):=by
      intro o hb;have h0:=hb.cell 0;have N:=hb.cell 1;have M:=hb.cell 2;have h3:=hb.cell 3;simp at h0 N M h3;exact⟨h0,N,M,h3⟩
     have A2:=Ab (VL w3.drew Nx);refine jT (λK1 DT=>?_);refine CK 6 (λo=>jF o ⟨G,0,Y⟩=V (O C)/\jF o ⟨G,1,Y⟩=V (U E B D)/\jF o ⟨G,2,Y⟩=V (X J z)/\jF o ⟨G,3,Y⟩=V (U R L Q)) (by kernel_rfl) ?_;refine CI.tkH (i:=0) (v:=j3 (V ⟨y,0,Y⟩)) rfl (by kernel_rfl) (λ_ _ _ h=>h) A2 (by rfl) ?_ ?_
     ·(rintro o ⟨z0,z1,z2,z3⟩;go_simp)
     simp only[jO,ee,ej,el];refine CI.tkH (i:=1) (v:=j3 (V ⟨y,0,Y⟩)) rfl (by kernel_rfl) (λ_ _ _ h=>h) A2 (by rfl) ?_ ?_
     ·(rintro o ⟨z0,z1,z2,z3⟩;go_simp)
     simp only[jO,ee,ej,el];refine CI.tkH (i:=2) (v:=j3 (V ⟨y,1,Y⟩)) rfl (by kernel_rfl) (λ_ _ _ h=>h) A2 (by rfl) ?_ ?_
     ·(rintro o ⟨z0,z1,z2,z3⟩;go_simp)
     simp only[jO,ee,ej,el];refine CI.tkH (i:=3) (v:=j3 (V ⟨G,0,Y⟩)) rfl (by kernel_rfl) (λ_ _ _ h=>h) A2 (by rfl) ?_ ?_
     ·(rintro o ⟨z0,z1,z2,z3⟩;go_simp)
     simp only[jO,ee,ej,el];refine CI.tkH (i:=4) (v:=.agg #[O C,U E B D]) rfl (by kernel_rfl) (λ_ _ _ h=>h) A2 (by rfl) ?_ ?_
     ·(rintro o ⟨z0,z1,z2,z3⟩;go_simp)
     simp only[jO,ee,ej,el];refine CI.one (i:=5) (by kernel_rfl) rfl (λEX hK=>?_)
     go_simp
     have HK:Ac [] wr w3.drew:=M6.drew;have NN:=Ab (PQ y 1 [U B0 (Z AT) BT,U EY (Z P) EK,U Ax (Z SJ) W] 139 EY EK P ⟨⟨C,BS⟩,U E (Z BS) D⟩ w3.drew (HB.kept HK (by simp)) rfl (by decide) (by decide) (SB.kept HK) (ef.kept HK) (by show Z BS<=1000;have h:=congrArg (λp=>Z p.zB) H7;simp only[aH]at h;have:=ST.2.2;omega) (by have:=Aa d3;omega) (RB.mono _));simp only[AW]at NN;rw[Aa cB]at NN;refine NN.mono ?_;rintro _ I ⟨rfl,hA⟩;have HU:AI w3.drew G [O C,U E B D,X J z,U R L Q] 176:=Nx;have Nj:=HB.kept HK (by simp);have RO:=SB.kept HK;have a3:G∉y::(U EY (Z P) EK).ownBlock.toList:=by
      intro S;rcases ey.1 S with h|h
      .rw[h]at HU;unfold AI at HU Nj;rw[Nj]at HU;simp at HU
      .exact Ap RO.row HU (by decide) (by simpa using h)
     have NV:=HU.kept hA.kept a3;refine hK.out _ _ (λ_=>VL _ NV) ?_;clear hK EX;refine CI.done (by kernel_rfl) ?_ _
     try simp only[jO,ee,ej,el]
     refine DT _ _ ?_;clear DT K1 A2 NN;obtain⟨p,H0,HW,hcut,KB,cf,PT⟩:=hA.out;simp only[el,ej]at KB;have TS:F6 P (BJ F) p:=by
      have h:=hcut;simp only at h;rw[Aa H7]at h;exact h
     have Op:Eh P ⟨C,BS⟩ p=false:=by
      rw[Aa H7,(Aa RB).zm (Aa ST).2.1 TS];cases hh:DD SJ F with
      |false=>rfl
      |true=>exact absurd ((BL _ _).1 hh) ao.2.2.2
     have d7:j9 (Dl (Lg P ⟨⟨C,BS⟩,U E B D⟩ p) (AY SJ F)):=by
      have h:=RB.zx (x:=⟨⟨C,BS⟩,U E B D⟩) H7 ST.2.1 TS (by rw[<-Aa H7];exact Op);unfold Lg;simp only[Op,ev,if_false];exact h
     (have NY:j9 (Z (AY SJ F)=H+1):=by show _=_;rw[(J9 SJ F).2 (Aa ao).2.2.2,Aa NL]);have H9:=Ab cf;have cx:j9 (∀q,(U H0 (Z (Lg P ⟨⟨C,BS⟩,U E B D⟩ p)) HW).ownBlock=V q->w0.heap.size<=q/\q∉A.filterMap λm=>m.n.ownBlock):=by
      intro q d;rcases PT q d with h|h
      .exact W3 q h
      .have N:w3.heap.size<=q:=h;have M:=HF.kept.size;have h3:=M6.size;refine⟨by omega,λS=>?_⟩;obtain⟨m,Pl,e⟩:=gA.1 S;have h4:=((H1 m Pl).nds.row.lt q e).2;omega
     have ea:j9 (∀p'∈xs,∀q,p'.2.n.ownBlock=V q->(U H0 (Z (Lg P ⟨⟨C,BS⟩,U E B D⟩ p)) HW).ownBlock≠V q):=by
      intro p' HM q d he;rcases PT q he with h|h
      .exact((HY.each p' HM).2 q d).2 h
      .have N:w3.heap.size<=q:=h;have h4:=((HY.each p' HM).1.nds.row.lt q d).2;have h3:=M6.size;omega
     have Nd:Ac (y::(U EY (Z P) EK).ownBlock.toList) wr I:=((HK.mono (by simp)).trans hA.kept);have c3:j9 (Gq w I):=bn.trans ((Gq.kept HK).trans (Gq.of hA.kept (λq d=>by
      rcases ey.1 d with rfl|d
      .obtain⟨a,b,c,N,M⟩:=WU Nj
       exact⟨a,b,c,N,j5 M⟩
      .obtain⟨a,b,c,N,M⟩:=W4 RO.row (q:=q) (by simpa using d)
       exact⟨a,b,c,N,j6 (j5 M)⟩)))
     have ch:j9 (Ac [] w0 I):=HF.kept.trans' Nd (λq d=>j6 (by
      rcases ey.1 d with rfl|d
      .exact HF.cb_
      .exact(W3 q (by simpa using d)).1))
     have JJ:∀{b e sz n:Nat} {v:j8} {ys:List j8},jG wr b e sz v n ys->e≠139->e≠104->jG I b e sz v n ys:=fun{b e sz n v ys} T N M=>Al T Nd (λq d S=>by
      rcases ey.1 S with rfl|S
      .exact Ap T HB N d
      .exact A5 T SB.row M q d (by simpa using S))
     have QQ:=JJ ap (by decide) (by decide);rw[Aa NL]at QQ;have HQ:=Ab QQ;have ad:=Ab (JJ KA (by decide) (by decide));have TH:∀{b sz n:Nat} {v:j8} {ys:List j8},jG wr b 104 sz v n ys->(∀q,v.ownBlock=V q->(U EY (Z P) EK).ownBlock≠V q)->jG I b 104 sz v n ys:=fun{b sz n v ys} T M=>Al T Nd (λq d S=>by
      rcases ey.1 S with rfl|S
      .exact Ap T HB (by decide) d
      .exact M q d (by simpa using S))
     (have ab:j9 (∀m∈A,J1 I m):=λm A0=>(H1 m A0).map (λp hp=>JJ (v:=p.tv) hp (by decide) (by decide)) (λT=>TH T (λq d he=>(W3 q he).2 (gA.2 ⟨m,A0,d⟩))));(have e6:j9 (∀p'∈xs,J1 I p'.2):=λp' HM=>(HY.each p' HM).1.map (λp hp=>JJ (v:=p.tv) hp (by decide) (by decide)) (λT=>TH T (λq d=>((HY.each p' HM).2 q d).2)));have c5:j9 (J1 I ⟨⟨⟨C,BS⟩,U E B D⟩,U R L Q,WB⟩):=by
      have h:=Aa ab _ (eo FA);rw[Aa em,Aa d4,Aa cB]at h;exact h
     have bv:=Ab NV;have N4:j9 (∀q,(U Ax H W).ownBlock=V q->q<G/\q∉(U (V ⟨g,0,Y⟩) (Z A) M2).ownBlock.toList):=λq d=>by
      have N:=Aa ap;have M:=Aa HX;rw[Aa NL]at N M;have h3:=(N.lt q d).2;have h4:=Aa dT;exact⟨by omega,M q d⟩
     rw[Aa NL]at KB;obtain⟨FL,TL⟩:∃FL,Z (Lg P ⟨⟨C,BS⟩,U E B D⟩ p)=FL:=⟨_,rfl⟩;have d0:=Ab TL;have RT:j9 (AI I y [U B0 (Z AT) BT,U H0 FL HW,U Ax H W] 139):=by
      rw[TL]at KB;exact KB
     clear hA HU Nj RO a3 NV HK hcut TS KB cf PT Op Nd QQ TL JJ TH;have K4:j9 (∀o,AI o G [O C,U E B D,X J z,U R L Q] 176->AI o y [U B0 (Z AT) BT,U H0 FL HW,U Ax H W] 139->jF o ⟨y,2,Y⟩=V (U Ax H W)/\jF o ⟨G,0,Y⟩=V (O C)/\jF o ⟨G,1,Y⟩=V (U E B D)/\jF o ⟨G,2,Y⟩=V (X J z)/\jF o ⟨G,3,Y⟩=V (U R L Q)):=by
      intro o hb hc;have h0:=hc.cell 2;simp at h0;exact⟨h0,VL o hb⟩
     have A2:=Ab (K4 I.drew bv RT);refine CK 10 (λo=>jF o ⟨y,2,Y⟩=V (U Ax H W)/\jF o ⟨G,0,Y⟩=V (O C)/\jF o ⟨G,1,Y⟩=V (U E B D)/\jF o ⟨G,2,Y⟩=V (X J z)/\jF o ⟨G,3,Y⟩=V (U R L Q)) (by kernel_rfl) ?_;refine CI.tk (i:=0) (v:=j3 (V ⟨y,0,Y⟩)) rfl (by kernel_rfl) (λ_ _ _ h=>h) A2 (by rfl) ?_ ?_
     ·(rintro o ⟨z0,z1,z2,z3,z4⟩;go_simp)
     simp only[jO,ee,ej,el];refine CI.tk (i:=1) (v:=j3 (V ⟨y,0,Y⟩)) rfl (by kernel_rfl) (λ_ _ _ h=>h) A2 (by rfl) ?_ ?_
     ·(rintro o ⟨z0,z1,z2,z3,z4⟩;go_simp)
     simp only[jO,ee,ej,el];refine CI.tk (i:=2) (v:=j3 (V ⟨y,0,Y⟩)) rfl (by kernel_rfl) (λ_ _ _ h=>h) A2 (by rfl) ?_ ?_
     ·(rintro o ⟨z0,z1,z2,z3,z4⟩;go_simp)
     simp only[jO,ee,ej,el];refine CI.tk (i:=3) (v:=j3 (V ⟨y,2,Y⟩)) rfl (by kernel_rfl) (λ_ _ _ h=>h) A2 (by rfl) ?_ ?_
     ·(rintro o ⟨z0,z1,z2,z3,z4⟩;go_simp)
     simp only[jO,ee,ej,el];refine CI.tk (i:=4) (v:=U Ax H W) rfl (by kernel_rfl) (λ_ _ _ h=>h) A2 (by rfl) ?_ ?_
     ·(rintro o ⟨z0,z1,z2,z3,z4⟩;go_simp)
     simp only[jO,ee,ej,el];refine CI.tk (i:=5) (v:=.agg #[O C,U E B D,X J z,U R L Q]) rfl (by kernel_rfl) (λ_ _ _ h=>h) A2 (by rfl) ?_ ?_
     ·(rintro o ⟨z0,z1,z2,z3,z4⟩;go_simp)
     simp only[jO,ee,ej,el];refine CI.one (i:=6) (by kernel_rfl) rfl (λEX hK=>?_)
     go_simp
     have WS:AI (I.drew.alloc (j1 #[O C,U E B D,X J z,U R L Q] 176)) G [O C,U E B D,X J z,U R L Q] 176:=AI.alloc (w:=I.drew) bv _;have RE:AI (I.drew.alloc (j1 #[O C,U E B D,X J z,U R L Q] 176)) y [U B0 (Z AT) BT,U H0 FL HW,U Ax H W] 139:=AI.alloc (w:=I.drew) RT _;refine hK.out _ _ (λ_=>K4 _ WS RE) ?_;clear hK EX
     try simp only[jO,ee,ej,el]
     have N2:jG I.drew w0.heap.size 176 4 (U Ax H W) H (xs.flatMap BU):=HQ;have dc:w0.heap.size<=I.heap.size:=ch.size;have ga:=Aa d6;refine CI.one (i:=7) (by kernel_rfl) rfl (λEX hK=>?_);refine jb _ (by rfl) _ _ _ (by rfl) w0.heap.size 176 i0 _ 4 72 underlying137 et db e4 eh rfl (by omega) (U Ax H W) H (xs.flatMap BU) (by rfl) (eC N2 _)
      ⟨I.drew.heap.size,0,Y⟩ 1 1 [O C,U E B D,X J z,U R L Q] (by rfl) (by rfl) (eS (cs:=#[O C,U E B D,X J z,U R L Q]) (t:=176) (fr:=(0,0)) (fe I.drew _)) (by simp[Value.oneCell'])
      (by omega) (by unfold maxLen;omega) (by omega) (by simp;exact Nat.le_succ_of_le dc) (I.heap.size+1) (by simp) ?_
     intro gg HH u3 RI M0 bd ew;have LB:=WS.grown M0 (λe=>by have:=(N4 G e).1;omega);have FB:=RE.grown M0 (Ap N2 RT (by decide));refine hK.out _ _ (λ_=>K4 _ LB FB) ?_;clear hK EX
     try simp only[jO,ee,ej,el]
     refine CI.one (i:=8) (by kernel_rfl) rfl (λEX hK=>?_)
     go_simp
     refine hK.out _ _ (λ_=>K4 _ LB FB) ?_;clear hK EX
     try simp only[jO,ee,ej,el]
     refine CI.one (i:=9) (by kernel_rfl) rfl (λEX hK=>?_)
     go_simp
     refine hK.out _ _ (λ_=>K4 _ LB FB) ?_;clear hK EX
     try simp only[jO,ee,ej,el]
     have aa:=FB.cell 2;have eA:=FB.frozen 2;simp at aa;refine CI.one (i:=10) (by kernel_rfl) rfl (λEX hK=>?_)
     go_simp
     refine hK.out _ _ (λh=>absurd rfl h) ?_;clear hK EX;refine CI.done (by kernel_rfl) ?_ _
     try simp only[jO,ee,ej,el]
     have NB:Ac ((U Ax H W).ownBlock.toList) I u3:=(((Ac.refl _ I).drew).alloc (j1 #[O C,U E B D,X J z,U R L Q] 176)).grown M0 (λq d=>j5 (by rw[d];simp));have P0:Ac [y] u3 (u3.setCell ⟨y,2,Y⟩ (U (V ⟨gg,0,Y⟩) (H+1) HH)):=(Ac.refl [y] u3).setCell (p:=⟨y,2,Y⟩) (j5 (by simp)) _;have HZ:∀{b e sz n:Nat} {v:j8} {ys:List j8},jG I b e sz v n ys->e≠139->(∀q,v.ownBlock=V q->(U Ax H W).ownBlock≠V q)->jG (u3.setCell ⟨y,2,Y⟩ (U (V ⟨gg,0,Y⟩) (H+1) HH)) b e sz v n ys:=fun{b e sz n v ys} T N M=>by
      have h3:=Al T NB (λq d S=>M q d (by simpa using S));exact Ag h3 (Ap h3 FB N) _
     (have LM:∀m,J1 I m->J1 (u3.setCell ⟨y,2,Y⟩ (U (V ⟨gg,0,Y⟩) (H+1) HH)) m:=λm h=>h.map (λp hp=>HZ (v:=p.tv) hp (by decide) (λq d=>A5 (v1:=p.tv) hp HQ (by decide) q d)) (λT=>HZ T (by decide) (λq d=>A5 T HQ (by decide) q d)));have bt:j9 (Mq w0 y (U B0 (Z AT) BT) (U (V ⟨g,0,Y⟩) (Z A) M2).ownBlock.toList (A.filterMap λm=>m.n.ownBlock) (((G8 r u).take (j+1)).foldl AY u) (B2++(IS.take (j+1)).map (Prod.mk z)) (u3.setCell ⟨y,2,Y⟩ (U (V ⟨gg,0,Y⟩) (H+1) HH))):=by
      rw[Aa a0,Aa b6,<-fD];refine⟨(ch.trans' NB (λq d=>j6 (HQ.lt q (by simpa using d)).1)).trans' P0 (λq d=>j6 (by simp only[ex]at d;rw[d];exact HF.cb_)),HF.cb_,H0,HW,Lg P ⟨⟨C,BS⟩,U E B D⟩ p,V ⟨gg,0,Y⟩,HH,xs++[(z,⟨⟨⟨C,BS⟩,U E B D⟩,U R L Q,WB⟩)],?_,⟨?_,λq d=>⟨?_,?_⟩⟩,d7,?_,cx,?_,?_,λp' HM=>?_⟩
      .rw[Aa NY,Aa d0];exact FB.set 2 _
      .exact HZ H9.row (by decide) (λq d=>A5 H9.row HQ (by decide) q d)
      .exact HZ (v:=q.tv) (H9.each q d).1 (by decide) (λq' es=>A5 (v1:=q.tv) (H9.each q d).1 HQ (by decide) q' es)
      .exact(H9.each q d).2
      .rw[Aa NY,eY];exact Ag RI (Ap RI FB (by decide)) _
      .rw[Aa NY];intro q d;simp only[jN,eD]at d;subst d;rcases bd with h|h
       .exact(N4 gg h).2
       .intro S;have N:=(ad.lt gg (by simpa using S)).2;omega
      .have h:=Aa er;simp only[fo]at h;rw[fi,fi,(Aa HY).eq];simp only[eR,gU,h.1,h.2]
      .rcases eG.1 HM with h|h
       .exact⟨LM _ (e6 p' h),λq d=>⟨((HY.each p' h).2 q d).1,ea p' h q d⟩⟩
       .simp only[ex]at h;subst h;exact⟨LM _ c5,λq d=>⟨(a4 q d).1,λhe=>(cx q he).2 (a4 q d).2⟩⟩
     have ba:=Ab (HZ ad (by decide) (λq d h=>(N4 q h).2 (by rw[d];simp)));(have a5:j9 (∀m∈A,J1 (u3.setCell ⟨y,2,Y⟩ (U (V ⟨gg,0,Y⟩) (H+1) HH)) m):=λm A0=>LM m (ab m A0));have cp:j9 (Gq w (u3.setCell ⟨y,2,Y⟩ (U (V ⟨gg,0,Y⟩) (H+1) HH))):=(c3.trans (Gq.of NB (λq d=>by
      obtain⟨a,b,c,N,M⟩:=W4 HQ (q:=q) (by simpa using d)
      exact⟨a,b,c,N,j6 (j6 M)⟩))).trans (Gq.of P0 (λq d=>by
      simp only[ex]at d
      rw[d]
      obtain⟨a,b,c,N,M⟩:=WU FB
      exact⟨a,b,c,N,j5 M⟩))
     generalize u3.setCell ⟨y,2,Y⟩ (U (V ⟨gg,0,Y⟩) (H+1) HH)=w6 at bt ba a5 cp⊢;clear RI M0 bd ew LB FB WS RE N2 aa eA NB P0 HZ LM A2;refine bx _ _ ?_;clear bx;go_wp2
     go_roundg (Z A-(j+1))
     case measure=>have:=Aa eg;omega
     case rel=>exact⟨j+1,by go_num,by omega,rfl,bt,ba,a5,cp⟩
    .have c6:j9 (Mq w0 y (U B0 (Z AT) BT) [] [] ((G8 r u).foldl AY u) (B2++IS.map (Prod.mk z)) wr):=by
      have h:=Aa HF;rw[eu (by omega),eu (by have h:=congrArg List.length (Aa OH);rw[eL]at h;omega)]at h;obtain⟨EY,EK,P,Ax,W,xs,g1,g2,g3,g4,g5,g6,g7⟩:=h.out;exact⟨h.kept,h.cb_,EY,EK,P,Ax,W,xs,g1,g2,g3,g4,λq d=>⟨(g5 q d).1,by simp⟩,λq d=>by simp,g7⟩
     have c4:j9 (HS (B2++IS.map (Prod.mk z)) ((G8 r u).foldl AY u)):=by
      have h:=Aa X0 (Z (G8 r u));rw[gP,eu (by have h:=congrArg List.length (Aa OH);rw[eL]at h;omega)]at h;exact h
     go_wp2_with fail
     go_roundg (Z ns-(k+1))
     case measure=>have:=Aa HG;omega
     case rel=>exact⟨k+1,(G8 r u).foldl AY u,B2++IS.map (Prod.mk z),by go_num,by omega,rfl,De.symm,c4,c6,bn⟩
  .have HE:j9 (u=(Fn (Ed dA) ds s).1):=by
    have h:=Aa X1;rw[eu (by have:=Aa XS;omega)]at h;exact h
   obtain⟨EY,EK,P,Ax,W,xs,hb,_⟩:=(Aa HD).out;have c2:=hb.cell 2;simp at c2;obtain⟨S1,WW⟩:∃S1,Z u=S1:=⟨_,rfl⟩;rw[WW]at c2;have eT:=Ab WW;clear hb WW;go_wp2;go_ret;refine⟨u,B2,HE,?_,VR,HD,MN⟩;rw[Aa c1,Aa eT]
   first|rfl|(simp;done)|simp
