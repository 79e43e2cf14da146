import Derived.Maps.OwnOps
import Derived.Maps.Views
import Derived.Carry
import Derived.Test.YtoihbhenbmffcaaGreatDoorWAX
set_option linter.all false
set_option maxHeartbeats 0
open List renaming length->Z
open Option renaming none->Y,some->V
open Go.Value renaming slice->U,int->X,string->O,pointer->m2,ownBlock->pI
open Go.IntKind renaming i64->J
open Go.Obj renaming cells->j3
open Or renaming inl->oi,inr->oj
open Go renaming World->py,Value->p5
open Go.RowKit renaming Hid->p7
open Go.World renaming cell?->p8,ownsRow->p9
open Go.Act renaming put->pJ
namespace Go.Proofs.YtoihbhenbmffcaaGreatDoor
open Go.RowKit Go.Proofs.Tryz
variable{M:pM Nat}{w v u:py}{m n k i j b:Nat}{z:p5}{y x:pM p5}{T:TypeId}{f:pM Af}
def Ue(x:zA):Lit:=.string x.data.toList
def dX{x y:zA}(h:Ue x=Ue y):x=y:=by
 unfold Ue at h;simp only[Lit.string.injEq]at h;obtain⟨⟨a⟩⟩:=x;obtain⟨⟨b⟩⟩:=y;simp at h;rw[h]
def Zu{x:zA}(h:x.size<=1000000):keyOf prog 9 (.string x)=some (Ue x):=by
 rw[keyOf_string underlying9];have h2:x.size<=maxLen:=by unfold maxLen;omega
 simp[mapKey,underlying9,Ue,h2]
structure Ez(w:World)(mb n:Nat)(L:zA->Nat):Prop where
 at_:∃D:DataW Unit,w.ownsMap prog 9 (plainElem prog 3) mb n D/\Maps.IsMap D/\∀x,D.atKey (Ue x) (.lit (.int .i64 0))=.lit (.int .i64 (L x))
def Ez.zX{L:zA->Nat}(h:Ez w m n L)(k:Ac M w v)(b:m∉M):Ez v m n L:=by
 obtain⟨D,⟨f,j,a,d,i,e⟩,g,c⟩:=h.at_;refine⟨D,⟨f,j,?_,d,i,e⟩,g,c⟩;rw[k.block m (mc.1 a).1 b];exact a
def L7(L:zA->Nat)(n:Nat)(x:PL):Nat:=if x.sort=0 then max n (L x.an)else if x.sort=1 then max n (L x.an+1)else n
def Hs(L:zA->Nat)(n:Nat)(ls:pM PL):Nat:=ls.foldl (L7 L) n
def QD(L:zA->Nat):∀(a:pM Br) (n:Nat),Hs L n (a.map LU)=a.foldl (Gf L) n
 |[],n=>rfl
 |x::a,n=>by
  have e:L7 L n (LU x)=Gf L n x:=by
   unfold L7 Gf;have d:=SY x.kind;have c:=dm x.kind;have f:(LU x).sort=F9 x.kind:=rfl;have b:(LU x).an=x.A.name:=rfl;rw[f,b,<-d,<-c];simp only[mT]
  unfold Hs;rw[lE,lR,lR,e];exact QD L a _
def Q4(a b:Nat):max (a:Int) (b:Int)=((max a b:Nat):Int):=by omega
set_option maxRecDepth 100000
theorem Qi(mb n:Nat)(L:zA->Nat)(bad:Option Addr)(bcp:Nat)(ls:pM Lz)(w:World)(hM:Ez w mb n L)(hB:B8 w 0 (.slice bad ls.length bcp) ls)(hll:ls.length<=1000)(hL:∀x,L x<=100000)(hsz:∀p∈ls,p.1.an.size<=1000000):
  Calls prog 195 #[.map (some mb),.slice bad ls.length bcp] w λr w'=>r=.returned (.int .i64 (Hs L 0 (ls.map Prod.fst):Nat))/\Ac [] w w':=by
 have HBo:=Ab hB;have HMa:=Ab hM;have HLb:=Ab hL;have HSz:=Ab hsz;obtain⟨R,hR⟩:∃R,Hs L 0 (ls.map Prod.fst)=R:=⟨_,rfl⟩;have HR:Hid (Hs L 0 ((ls.drop 0).map Prod.fst)=R):=hR;rw[hR];clear hB hM hL hsz hR;go_enter func195,ntmps195;go_wp2_with fail
 go_loopg [5,10] ls.length (λgk o i wr=>∃(k m:Nat),o=.int .i64 m/\i=.int .i64 k/\k<=ls.length/\gk=ls.length-k/\m<=200000/\Hid (Hs L m ((ls.drop k).map Prod.fst)=R)/\Hid (Ac [] w wr))
 case atStart=>exact⟨0,0,rfl,rfl,by omega,rfl,by omega,HR,pO _ _⟩
 case round=>
  clear HR;obtain⟨k,m,rfl,rfl,hk,hgk,hm,HR,HK⟩:=hrel;have HG:=Ab hgk;clear hgk;by_cases hlt:k<ls.length
  .obtain⟨g,cap,x,xad,xcp,he,hlk,_,d0,d1,d2,d3,d4,d5,d6,d7,d8⟩:=Vu (HBo.kept HK (by simp)) k hlt;simp only[kS]at he;obtain⟨rfl,_,rfl⟩:=he;(have hmem:(x,Value.slice xad x.ts.length xcp)∈ls:=by rw[<-hlk];exact kV hlt);have hkey:=Zu (HSz _ hmem);have hLx:=Aa HLb x.an;have HR2:Hid (Hs L (L7 L m x) ((ls.drop (k+1)).map Prod.fst)=R):=by
    have h:=Aa HR;rw[lD hlt,lE,hlk]at h;exact h
   have HKa:=Ab (HK.alloc (.cells (Ay (x,.slice xad x.ts.length xcp)).toArray 217));obtain⟨D,hown,_,hD⟩:=(HMa.zX HKa (by simp)).at_;have HDx:=Ab (hD x.an);have HC1:Hid (L7 L m x=if x.sort=0 then max m (L x.an)else if x.sort=1 then max m (L x.an+1)else m):=rfl;clear hD hlk hmem HR HK;generalize L7 L m x=LM at HC1 HR2;obtain⟨lx,hlx⟩:∃lx,L x.an=lx:=⟨_,rfl⟩;rw[hlx]at hLx HDx HC1;clear hlx;obtain⟨pl,so,ap,an,ts,⟨lv,lsv⟩,⟨rv,rsv⟩⟩:=x;simp only[Ay]at HKa hown hkey HC1 HDx d0 d1 d2 d3 d4 d5 d6 d7 d8;by_cases h0:so=0
   ·(have h0b:(so==0)=true:=by simp[h0]);(have HE:Hid (LM=max m lx):=by show _=_;rw[Aa HC1,ln h0]);clear h0 HC1;go_wp2_with (at_lookup;refine wpList_lookup_own_int _ rfl _ _ 269 rfl 9 3 .i64 (Maps.string_keyed underlying9) underlying269 underlying3 (zeroValue3 _) mb n D rfl hown _ _ rfl hkey ?_;intro c hat hwc;obtain rfl:c=(lx:Int):=(by have h:=hat.symm.trans HDx;simpa using h);clear hat hwc)
    go_roundg (ls.length-(k+1))
    case measure=>have:=Aa HG;omega
    case rel=>exact⟨k+1,LM,by first|(rw[Aa HE,<-Q4];done)|(rw[Aa HE,<-Q4];rfl),by go_num,by omega,rfl,by rw[Aa HE];omega,HR2,HKa⟩
   ·(have h0b:(so==0)=false:=by simp[h0]);by_cases h1:so=1
    ·(have h1b:(so==1)=true:=by simp[h1]);(have HE:Hid (LM=max m (lx+1)):=by show _=_;rw[Aa HC1,li h0,ln h1]);(have hwx:IntKind.i64.wrap ((lx:Int)+1)=(lx:Int)+1:=by rw[nB];omega);clear h0 h1 HC1;go_wp2_with (at_lookup;refine wpList_lookup_own_int _ rfl _ _ 269 rfl 9 3 .i64 (Maps.string_keyed underlying9) underlying269 underlying3 (zeroValue3 _) mb n D rfl hown _ _ rfl hkey ?_;intro c hat hwc;obtain rfl:c=(lx:Int):=(by have h:=hat.symm.trans HDx;simpa using h);clear hat hwc)
     go_roundg (ls.length-(k+1))
     case measure=>have:=Aa HG;omega
     case rel=>exact⟨k+1,LM,by first|(rw[Aa HE,<-Q4];done)|(rw[Aa HE,<-Q4];rfl),by go_num,by omega,rfl,by rw[Aa HE];omega,HR2,HKa⟩
    ·(have h1b:(so==1)=false:=by simp[h1]);(have HE:Hid (LM=m):=by show _=_;rw[Aa HC1,li h0,li h1]);clear h0 h1 HC1;go_wp2
     go_roundg (ls.length-(k+1))
     case measure=>have:=Aa HG;omega
     case rel=>exact⟨k+1,LM,by rw[Aa HE],by go_num,by omega,rfl,by rw[Aa HE];omega,HR2,HKa⟩
  .have HE:Hid (m=R):=by
    have h:=Aa HR;rw[lS (by omega)]at h;exact h
   go_wp2;go_ret;rw[Aa HE];exact⟨rfl,HK⟩
def F2.at{α β:Type}{R:α->β->Prop}:∀{l:pM α} {m:pM β},F2 R l m->∀k (c:k<Z l) (d:k<Z m),R l[k] m[k]
 |[],[],_,k,c,_=>by simp at c
 |a::l,b::m,h,0,_,_=>h.1
 |a::l,b::m,h,k+1,c,d=>F2.at (l:=l) (m:=m) h.2 k (by simpa using c) (by simpa using d)
def Ez.put{w':World}{mb n:Nat}{L:zA->Nat}{D:DataW Unit}{x:zA}{v:Nat}(hD:Maps.IsMap D)(hat:∀y,D.atKey (Ue y) (.lit (.int .i64 0))=.lit (.int .i64 (L y)))(h:w'.ownsMap prog 9 (plainElem prog 3) mb n (D.put (Ue x) (.lit (.int .i64 v)))):Ez w' mb n (P4 L x v):=by
 refine⟨_,h,?_,λy=>?_⟩
 .obtain⟨es,clock,_,_,_,e⟩:=h;exact⟨_,e⟩
 .by_cases hy:y=x
  .subst hy;rw[Ho,Maps.atKey_put_same hD (by unfold Ue;exact trivial)]
  .rw[JQ _ hy,Maps.atKey_put_other (λe=>hy (dX e))];exact hat y
def Ez.mono{w:World}{mb n n':Nat}{L:zA->Nat}(h:Ez w mb n L)(hn:n<=n'):Ez w mb n' L:=by
 obtain⟨D,h1,h2⟩:=h.at_;exact⟨D,h1.mono hn,h2⟩
def Tl:∀(a:pM A4),EB a (λ_=>0)=0
 |[]=>rfl
 |c::a=>by
  have e:EB (c::a) (λ_=>0)=0+EB a (λ_=>0):=by unfold EB;rw[lE,List.sum_cons]
  rw[e,Tl a]
def Y9(x:zA):(DataW.map []:DataW Unit).atKey (Ue x) (.lit (.int .i64 0))=.lit (.int .i64 0):=by
 first|rfl|(unfold Ue;rfl)|simp[DataW.atKey]
def iZ(rcs:pM A4)(zR:zA->Nat)(w:py)(r:Ending)(w':py):Prop:=∃(mb n:Nat) (L:zA->Nat),r=.returned (.map (V mb))/\Ez w' mb n L/\CR rcs L/\(∀x,L x<=zR x)/\w.heap.size<=mb/\Ac [] w w'
theorem Oo(lad:Option Addr)(lcp:Nat)(pcs:pM Dy)(rcs:pM A4)(w:World)(zR:zA->Nat)(hP:DE w (.slice lad pcs.length lcp) pcs)(hC:F2 RX pcs rcs)(hlen:pcs.length<=1000)(hll:∀c∈pcs,c.zH.length<=1000)(hsz:∀c∈pcs,c.hn.size<=1000000/\∀p∈c.zH,p.1.an.size<=1000000)(hL:CR rcs zR)(hlv:∀x,zR x<=1000)(hsum:EB rcs zR<=100000):
  Calls prog 166 #[.slice lad pcs.length lcp] w λr w'=>iZ rcs zR w r w':=by
 have HPr:=Ab hP;have HCr:=Ab hC;have HLl:=Ab hll;have HSz:=Ab hsz;have HLk:=Ab hL;have HLv:=Ab hlv;have HSu:=Ab hsum;have HRl:=Ab hC.lenX;have HM0:Hid (Ez (w.alloc (.map #[] 0)) w.heap.size 0 (λ_=>0)):=⟨.map [],World.ownsMap_made w _ _ _,⟨_,rfl⟩,Y9⟩;have HK0:=Ab ((pO [] w).alloc (.map #[] 0));have hmm:= @run_makeMap prog;obtain⟨MB,hMB⟩:∃MB,w.heap.size=MB:=⟨_,rfl⟩;have HMB:=Ab hMB;clear hP hC hll hsz hL hlv hsum;go_enter func166,ntmps166;go_wp2_with fail
 generalize hw1:w.alloc (.map #[] 0)=w1 at HM0 HK0⊢;clear hw1 hmm;rw[hMB]at HM0
 try rw[hMB]
 clear hMB
 go_loopg [4] (EB rcs zR+2) (λgk rv wr=>∃(R:Bool) (L:zA->Nat),rv=.bool R/\gk=(if R then EB rcs zR-EB rcs L+2 else 1)/\Hid (Ez wr MB (EB rcs L) L)/\Hid (∀x,L x<=zR x)/\Hid (R=false->CR rcs L)/\Hid (Ac [] w wr))
 case atStart=>
  refine⟨true,λ_=>0,rfl,?_,HM0.mono (lz _),λx=>lz _,λh=>(by cases h),HK0⟩;rw[ln rfl,Tl,Nat.sub_zero]
 case round=>
  clear HM0 HK0;obtain⟨R,L,rfl,hgk,HM,HLe,HFi,HK⟩:=hrel;have HG:=Ab hgk;clear hgk;cases R with
  |false=>
   have HOk:=Ab (HFi rfl);go_wp2;go_ret;exact⟨MB,_,L,rfl,HM,HOk,HLe,by have:=Aa HMB;omega,HK⟩
  |true=>
   go_wp2_with fail
   go_loopg [4,12] pcs.length (λgk2 rv i wq=>∃(k:Nat) (m:Bool) (L':zA->Nat),rv=.bool m/\i=.int .i64 k/\k<=pcs.length/\gk2=pcs.length-k/\Hid ((rcs.take k).foldl EL (L,false)=(L',m))/\Hid (Ez wq MB (EB rcs L') L')/\Hid (Ac [] w wq))
   case atStart=>exact⟨0,false,L,rfl,rfl,by omega,rfl,rfl,HM,HK⟩
   case round=>
    clear HM HK;obtain⟨k,m,L',rfl,rfl,hk,hgk2,HFo,HM,HK⟩:=hrel;have HG2:=Ab hgk2;clear hgk2;have HUp:Hid ((∀x,L' x<=zR x)/\EB rcs L'<=EB rcs zR):=by
     have h:=Kd HLk (rcs.take k) L false (λc hc=>mD hc) HLe;rw[Aa HFo]at h;exact⟨h.2.1,Zs h.2.1⟩
    by_cases hlt:k<pcs.length
    ·(have hltr:k<rcs.length:=by have:=Aa HRl;omega);have hcor:=HCr.at k hlt hltr;obtain⟨g,cap,hp,hn,zV,adh,cph,adb,cpb,zH,he,hck,d0,d1,d2,d3⟩:=F6 (HPr.kept HK) k hlt;simp only[kS]at he;obtain⟨rfl,-,rfl⟩:=he;have hmem:pcs[k]∈pcs:=kV hlt;have hpc:=HPr.each _ hmem;have hl3:=Aa HLl _ hmem;have hs3:=Aa HSz _ hmem;rw[hck]at hcor hpc hl3 hs3;have HKa:=Ab (HK.alloc (.cells #[.int .i64 hp,.string hn,.slice adh zV.length cph,.slice adb zH.length cpb] 189));have HMa:=Ab (HM.zX ((pO [] wr).alloc (.cells #[.int .i64 hp,.string hn,.slice adh zV.length cph,.slice adb zH.length cpb] 189)) (by simp));have HBx:=Ab (pP wr [.int .i64 hp,.string hn,.slice adh zV.length cph,.slice adb zH.length cpb] 189);have hup:=Aa HUp;have HC1:=Ab (Qi MB (EB rcs L') L' adb cpb zH _ HMa (hpc.body.kept HKa (by simp)) hl3 (λx=>by have:=hup.1 x;have:=Aa HLv x;omega) hs3.2);have hle:Hs L' 0 (zH.map Prod.fst)=G5 L' (Al rcs[k]):=by
      have h2:=F2.fst hcor.lits;simp only at h2;rw[h2,QD];rfl
     have hnm:hn=rcs[k].head.name:=hcor.hn;have Dk:Hid ((rcs.take (k+1)).foldl EL (L,false)=EL (L',m) rcs[k]):=by
      show _=_;rw[kW hltr,mi,Aa HFo];rfl
     have HRc:Hid (EL (L',m) rcs[k]=if L' hn<Hs L' 0 (zH.map Prod.fst)then(P4 L' hn (Hs L' 0 (zH.map Prod.fst)),true)else(L',m)):=by
      show _=_;unfold EL;rw[hle,hnm]
     have HLt:Hid (∀v,L' hn<v->EB rcs L'+1<=EB rcs (P4 L' hn v)):=by
      intro v hv;refine fN (λx=>?_) (kV hltr) ?_
      .by_cases hx:x=hn
       .rw[hx,Ho];omega
       .rw[JQ _ hx];exact lC _
      .rw[<-hnm,Ho];exact hv
     have hkey:=Zu hs3.1;have hlx:=hup.1 hn;have hlx2:=Aa HLv hn;(have HHn:Hid (L' hn<=1000):=by show L' hn<=1000;omega);(have HSm:Hid (EB rcs L'<=100000):=by have:=hup.2;have:=Aa HSu;show EB rcs L'<=100000;omega);have HLc:Hid (Hs L' 0 (zH.map Prod.fst)<=100000):=by
      have h:=OI (L:=L') (b:=2000) (Al rcs[k]) 0 (by omega) (λx hx=>⟨λ_=>by have:=hup.1 x.A.name;have:=Aa HLv x.A.name;omega,λ_=>by have:=hup.1 x.A.name;have:=Aa HLv x.A.name;omega⟩);rw[hle];have h2:G5 L' (Al rcs[k])<=2000:=h;show G5 L' (Al rcs[k])<=100000;omega
     clear hcor hpc hl3 hs3 hmem hck hup hle hnm hlx hlx2;obtain⟨LC,hLC⟩:∃LC,Hs L' 0 (zH.map Prod.fst)=LC:=⟨_,rfl⟩;rw[hLC]at HC1 HRc HLc;clear hLC HK HM HUp;(go_wp2_with fail);refine HC1.mono ?_;rintro _ w3 ⟨rfl,k3⟩;have HK3:=Ab (HKa.trans k3);have hM3:=HMa.zX k3 (by simp);have HM3:=Ab hM3;have hB3:=HBx.kept k3 (by simp);have e0:=hB3.cell 0;have e1:=hB3.cell 1;simp at e0 e1;obtain⟨D,hown,hDm,hD⟩:=hM3.at_;have HDm:=Ab hDm;have HD:=Ab hD;obtain⟨lx,hlx⟩:∃lx,L' hn=lx:=⟨_,rfl⟩;have HLX:=Ab hlx;clear hM3 hB3 HBx HMa HKa HC1 k3 d0 d1 d2 d3 hDm hD hlx;by_cases hlow:lx<LC
     ·(have hlowi:(lx:Int)<(LC:Int):=by omega);have hval:plainElem (H:=Unit) prog 3 (.int .i64 (LC:Int))=some (.lit (.int .i64 (LC:Int)),[]):=plainElem_int underlying3 (by
       have:=Aa HLc
       simp[Lit.wf,IntKind.min,IntKind.max,IntKind.signed,IntKind.bits]
       omega)
      (have hnm:EB rcs L'<maxLen:=by have:=Aa HSm;unfold maxLen;omega);clear hlow;go_wp2_with (first
       |(at_lookup;refine wpList_lookup_own_int _ rfl _ _ 269 rfl 9 3 .i64 (Maps.string_keyed underlying9) underlying269 underlying3 (zeroValue3 _) MB (EB rcs L') D rfl hown _ _ rfl hkey ?_;intro c hat hwc;obtain rfl:c=(lx:Int):=(by have h:=hat.symm.trans (HD hn);rw[Aa HLX]at h;simpa using h);clear hat hwc)
       |(at_mapUpdate;refine wpList_mapUpdate_own _ rfl _ _ _ 269 rfl 9 3 (Maps.string_keyed underlying9) underlying269 _ MB (EB rcs L') D rfl hown hnm _ _ (Ue hn) rfl rfl hkey _ [] hval ?_;intro w4 hown4 hgrow4))
      have HM4:Hid (Ez w4 MB (EB rcs (P4 L' hn LC)) (P4 L' hn LC)):=(Ez.put HDm HD hown4).mono (HLt LC (by have:=Aa HLX;omega));have HK4:Hid (Ac [] w w4):=HK3.grown hgrow4 (λq hq=>Or.inr (by simp only[ld]at hq;have:=Aa HMB;omega));have HF4:Hid ((rcs.take (k+1)).foldl EL (L,false)=(P4 L' hn LC,true)):=by show _=_;rw[Aa Dk,Aa HRc,ln (by have:=Aa HLX;omega)]
      go_roundg (pcs.length-(k+1))
      case measure=>have:=Aa HG2;omega
      case rel=>exact⟨k+1,true,P4 L' hn LC,rfl,by go_num,by omega,rfl,HF4,HM4,HK4⟩
     ·(have hlowi:¬(lx:Int)<(LC:Int):=by omega);(have HF4:Hid ((rcs.take (k+1)).foldl EL (L,false)=(L',m)):=by show _=_;rw[Aa Dk,Aa HRc,li (by have:=Aa HLX;omega)]);clear hlow;go_wp2_with (at_lookup;refine wpList_lookup_own_int _ rfl _ _ 269 rfl 9 3 .i64 (Maps.string_keyed underlying9) underlying269 underlying3 (zeroValue3 _) MB (EB rcs L') D rfl hown _ _ rfl hkey ?_;intro c hat hwc;obtain rfl:c=(lx:Int):=(by have h:=hat.symm.trans (HD hn);rw[Aa HLX]at h;simpa using h);clear hat hwc)
      go_roundg (pcs.length-(k+1))
      case measure=>have:=Aa HG2;omega
      case rel=>exact⟨k+1,m,L',rfl,by go_num,by omega,rfl,HF4,HM3,HK3⟩
    .have HRa:Hid (Mm rcs L=(L',m)):=by
      have h:=Aa HFo;rw[kX (by have:=Aa HRl;omega)]at h;exact h
     have HSp:=Ab (YU HLk HLe);go_wp2_with fail
     go_roundg (if m then EB rcs zR-EB rcs L'+2 else 1)
     case measure=>
      have h1:=Aa HSp;rw[Aa HRa]at h1;have h2:=Aa HG;simp only[if_true]at h2;cases m with
      |true=>
       have h3:=h1.2.2.1 rfl;have h4:=h1.2.2.2;simp only at h3 h4;simp only[if_true];omega
      |false=>
       simp only[k0,if_false];omega
     case rel=>
      refine⟨m,L',rfl,rfl,HM,λx=>HUp.1 x,λhm=>?_,HK⟩;have h1:=HSp.2.1;rw[Aa HRa]at h1;obtain⟨h2,h3⟩:=h1 hm;simp only at h2;rw[h2];exact h3
theorem Tryz.yW:(Tryz.prog.info? 221).map (λi=>(i.zero,i.size,i.bytes))=V (V (U Y 0 0),1,24):=by kernel_rfl
abbrev P7:=pM Nat×p5
structure El(w:py)(base:Nat)(pv:p5)(ps:pM P7):Prop where
 row:p9 w base 221 1 pv (Z ps) (ps.flatMap λp=>[p.2])
 each:∀p∈ps,p9 w base 3 1 p.2 (Z p.1) (p.1.flatMap Cd)
 apart:ps.Pairwise λa b=>∀q,a.2.ownBlock=V q->b.2.ownBlock≠V q
def El.kept{w w':py}{a:pM P7}(h:El w n z a)(k:Ac [] w w'):El w' n z a:=⟨Ad h.row k,λp b=>Ad (h.each p b) k,h.apart⟩
def bO{a:p5}(h:p9 w k 3 1 z n y)(c:p9 w i 221 1 a m x)(b:w.grownBy u a.ownBlock):p9 u k 3 1 z n y:=
 mI h b (by
  cases hp:z.ownBlock with
  |none=>exact oi rfl
  |some q=>exact oj (λe=>Bc h c (by decide) q hp e.symm))
def Tv{a:pM P7}(h:El w n z a)(k:Nat)(i:k<Z a):∃g j f b,z=U (V ⟨g,0,Y⟩) (Z a) j/\a[k].2=U f a[k].1.length b/\p8 w ⟨g,k,Y⟩=V (U f a[k].1.length b):=by
 obtain⟨g,j,l,_,m⟩:=AC h.row (λc _=>rfl) k i;have d:=m k i 0 (by omega);obtain⟨f,b,e⟩:=Ak (h.each _ (kV i));simp[e]at d;exact⟨g,j,f,b,l,e,d⟩
structure IZ(f:Nat->Nat)(k:Nat)(ps:pM P7):Prop where
 lists:∀j (hj:j<Z ps),ps[j].1=(List.range k).filter λi=>f i==j
 top:∀i,i<k->f i<Z ps
 len:Z ps<=1001
def IZ.more{f:Nat->Nat}{a:pM P7}(h:IZ f k a)(l:Z a<=1000)(v:p5):IZ f k (a++[([],v)]):=by
 refine⟨λj d=>?_,λi b=>by have:=h.top i b;simp;omega,by simp;omega⟩;by_cases c:j<Z a
 .rw[mB c];exact h.lists j c
 .have e:j=Z a:=by simp at d;omega
  subst e;rw[List.getElem_append_right (lC _)];simp only[Nat.sub_self,oG]
  symm
  rw[oH];intro i b g;have m:=h.top i (oQ.1 b);have:f i=Z a:=by simpa using g
  omega
def IZ.put{f:Nat->Nat}{a:pM P7}(h:IZ f k a)(b:f k<Z a)(v:p5):IZ f (k+1) (a.set (f k) (a[f k].1++[k],v)):=by
 refine⟨λj c=>?_,λi l=>?_,by rw[mQ];exact h.len⟩
 .have d:j<Z a:=by rw[mQ]at c;exact c
  rw[List.range_succ,nF,List.getElem_set];split
  .rename_i e;subst e;simp only;rw[h.lists _ b]
   congr 1
   simp
  .rename_i e;rw[h.lists j d];(have:([k].filter λi=>f i==j)=[]:=by simp;exact e);rw[this,lU]
 .rw[mQ];by_cases g:i=k
  .rw[g];exact b
  .exact h.top i (by omega)
def bT(b:pM P7)(j:Nat)(x:P7):(b.set j x).flatMap (λp=>[p.2])=(b.flatMap λp=>[p.2]).set j x.2:=by
 have e:∀l:pM P7,l.flatMap (λp=>[p.2])=l.map λp=>p.2:=λl=>by
  induction l with
  |nil=>rfl
  |cons a l ih=>simp[ih]
 rw[e,e,px]
def El.put{w r z:py}{g B:Nat}{c:pM P7}(s:j<Z c){x:P7}(h:El w m (U (V ⟨g,0,Y⟩) (Z c) B) c)(F:w.grownBy r c[j].2.ownBlock)(N:p9 r m 3 1 x.2 (Z x.1) (x.1.flatMap Cd))(E:∀q,x.2.ownBlock=V q->c[j].2.ownBlock=V q\/w.heap.size<=q)
  (D:z=r.setCell ⟨g,j,Y⟩ x.2):El z m (U (V ⟨g,0,Y⟩) (Z c) B) (c.set j x):=by
 have P:=h.each _ (kV s);have G:p9 r m 221 1 (U (V ⟨g,0,Y⟩) (Z c) B) (Z c) (c.flatMap λp=>[p.2]):=mI h.row F (oj (λe=>Bc h.row P (by decide) g rfl e.symm));have L:∀i (f:i<Z c),i≠j->p9 r m 3 1 c[i].2 c[i].1.length (c[i].1.flatMap Cd):=λi f I=>mI (h.each _ (kV f)) F (by
  cases t:c[i].2.ownBlock with
  |none=>exact oi rfl
  |some q=>
   refine oj (λe=>?_)
   have l:=nk.1 h.apart
   rcases Nat.lt_or_gt_of_ne I with d|d
   .exact l i j f s d q t e.symm
   .exact l j i s f d q e.symm t)
 have H:∀{v:p5} {n:Nat} {C:pM p5},p9 r m 3 1 v n C->p9 z m 3 1 v n C:=fun{v n C} hv=>by
  rw[D];exact Ag hv (λe=>Bc hv G (by decide) g e rfl) _
 refine⟨?_,λp t=>?_,?_⟩
 .rw[mQ,bT,D];exact BG G j x.2
 .obtain⟨i,f,rfl⟩:=lX t;rw[mQ]at f;rw[List.getElem_set];split
  .exact H N
  .rename_i e;exact H (L i f (λM=>e M.symm))
 .have l:=nk.1 h.apart;refine nk.2 (λa b y u A q o k=>?_);rw[mQ]at y u;rw[List.getElem_set]at o k;split at o
  .rename_i e;subst e;rw[li (by omega)]at k;rcases E q o with d|d
   .exact l j b s u A q d k
   .have:=((h.each _ (kV u)).lt q k).2;omega
  .split at k
   .rename_i e;subst e;rcases E q k with d|d
    .exact l a j y s A q o d
    .have:=((h.each _ (kV y)).lt q o).2;omega
   .exact l a b y u A q o k
def G8(pcs:pM Dy)(i:Nat):zA:=((pcs[i]?).map Dy.hn).getD ByteArray.empty
def aA(pcs:pM Dy)(rcs:pM A4)(zR:zA->Nat)(w:py)(r:Ending)(w':py):Prop:=∃(ad:Option Addr) (cp:Nat) (ps:pM P7) (L:zA->Nat),r=.returned (U ad (Z ps) cp)/\El w' w.heap.size (U ad (Z ps) cp) ps/\IZ (λi=>L (G8 pcs i)) (Z pcs) ps/\CR rcs L/\(∀x,L x<=zR x)/\Ac [] w w'
theorem YV(lad:Option Addr)(lcp:Nat)(pcs:pM Dy)(rcs:pM A4)(w:World)(zR:zA->Nat)(hP:DE w (.slice lad pcs.length lcp) pcs)(hC:F2 RX pcs rcs)(hlen:pcs.length<=1000)(hll:∀c∈pcs,c.zH.length<=1000)(hsz:∀c∈pcs,c.hn.size<=1000000/\∀p∈c.zH,p.1.an.size<=1000000)(hL:CR rcs zR)(hlv:∀x,zR x<=1000)(hsum:EB rcs zR<=100000):
  Calls prog 123 #[.slice lad pcs.length lcp] w λr w'=>aA pcs rcs zR w r w':=by
 obtain⟨i0,hi0,hz0,hz1,hz2⟩:=mg Tryz.yW;obtain⟨j0,hj0,hy0,hy1,hy2⟩:=mg Tryz.yE;have HPr:=Ab hP;have HSz:=Ab hsz;have HLv:=Ab hlv;have HNu:=Ab (Oo lad lcp pcs rcs w zR hP hC hlen hll hsz hL hlv hsum);obtain⟨W0,hW0⟩:∃W0,w.heap.size=W0:=⟨_,rfl⟩;have HW0:=Ab hW0;clear hP hC hll hsz hL hlv hsum hW0;go_enter func123,ntmps123;go_wp2_with fail
 refine HNu.mono ?_;rintro _ w1 ⟨mb,n,L,rfl,hM,hOk,hLe,hmb,k1⟩;have HM1:=Ab hM;have HOk:=Ab hOk;have HLe:=Ab hLe;have HK1:=Ab k1;have HMb:Hid (W0<=mb):=by have:=Aa HW0;show W0<=mb;omega
 clear HNu hM hOk hLe hmb k1;go_wp2_with fail
 go_loopg [4,12] pcs.length (λgk pv i wr=>∃(k:Nat) (ps:pM P7) (ad:Option Addr) (cp:Nat),pv=.slice ad ps.length cp/\i=.int .i64 k/\k<=pcs.length/\gk=pcs.length-k/\Hid (IZ (λi=>L (G8 pcs i)) k ps)/\Hid (El wr W0 (.slice ad ps.length cp) ps)/\Hid (Ez wr mb n L)/\Hid (Ac [] w wr))
 case atStart=>exact⟨0,[],none,0,rfl,rfl,by omega,rfl,⟨λj hj=>by simp at hj,λi hi=>by omega,by simp⟩,⟨lH _ _ _ _,λp hp=>by simp at hp,List.Pairwise.nil⟩,HM1,HK1⟩
 case round=>
  clear HM1 HK1;obtain⟨k,ps,ad,cp,rfl,rfl,hk,hgk,HPo,HPi,HM,HK⟩:=hrel;have HG:=Ab hgk;clear hgk;by_cases hlt:k<pcs.length
  .obtain⟨g,cap,hp,hn,zV,adh,cph,adb,cpb,zH,he,hck,d0,d1,d2,d3⟩:=F6 (HPr.kept HK) k hlt;simp only[kS]at he;obtain⟨rfl,-,rfl⟩:=he;have hs3:=(HSz _ (kV hlt)).1;rw[hck]at hs3;have hkey:=Zu hs3;have HNm:Hid (G8 pcs k=hn):=by
    show _=_;unfold G8;rw[lc hlt,hck];rfl
   (have hLn:L hn<=1000:=by have:=Aa HLe hn;have:=Aa HLv hn;omega);have HKa:=Ab (HK.alloc (.cells #[.int .i64 hp,.string hn,.slice adh zV.length cph,.slice adb zH.length cpb] 189));have hMa:=HM.zX ((pO [] wr).alloc (.cells #[.int .i64 hp,.string hn,.slice adh zV.length cph,.slice adb zH.length cpb] 189)) (by simp);have HMa:=Ab hMa;have HPa:=Ab (HPi.kept ((pO [] wr).alloc (.cells #[.int .i64 hp,.string hn,.slice adh zV.length cph,.slice adb zH.length cpb] 189)));obtain⟨D,hown,hDm,hD⟩:=hMa.at_;have HD:=Ab (hD hn);obtain⟨ly,hly⟩:∃ly,L hn=ly:=⟨_,rfl⟩;rw[hly]at HD hLn;(have HFk:Hid (L (G8 pcs k)=ly):=by show _=_;rw[Aa HNm];exact hly);clear hMa hDm hD hs3 hck hly HPi HM HK;go_wp2_with (at_lookup;refine wpList_lookup_own_int _ rfl _ _ 269 rfl 9 3 .i64 (Maps.string_keyed underlying9) underlying269 underlying3 (zeroValue3 _) mb n D rfl hown _ _ rfl hkey ?_;intro c hat hwc;obtain rfl:c=(ly:Int):=(by have h:=hat.symm.trans HD;simpa using h);clear hat hwc)
   clear hown HD hkey d0 d1 d2 d3;generalize wr.alloc (.cells #[.int .i64 hp,.string hn,.slice adh zV.length cph,.slice adb zH.length cpb] 189)=wa at HKa HMa HPa⊢
   go_loopg [4] (ly+2-ps.length) (λgk2 pv wq=>∃(ps:pM P7) (ad:Option Addr) (cp:Nat),pv=.slice ad ps.length cp/\gk2=ly+2-ps.length/\Hid (IZ (λi=>L (G8 pcs i)) k ps)/\Hid (El wq W0 (.slice ad ps.length cp) ps)/\Hid (Ez wq mb n L)/\Hid (Ac [] w wq))
   case atStart=>exact⟨ps,ad,cp,rfl,rfl,HPo,HPa,HMa,HKa⟩
   case round=>
    clear HPo HPa HMa HKa;obtain⟨ps,ad,cp,rfl,hg2,HPo,HPi,HM,HK⟩:=hrel;have HG2:=Ab hg2;clear hg2;(have hsw:W0<=wr.heap.size:=by have:=HK.size;have:=Aa HW0;omega);by_cases hle:ps.length<=ly
    ·(have hlei:(ps.length:Int)<=(ly:Int):=by omega);have hO:=HPi.row;go_wp2_with (at_builtin;refine lG _ rfl (.tmp 26) (.tmp 27) _ rfl W0 221 i0 _ 1 24 underlying219 hi0 hz0 hz1 hz2 rfl (by omega) (.slice ad ps.length cp) ps.length (ps.flatMap λp=>[p.2]) rfl (lg hO _) ⟨wr.heap.size,0,none⟩ 1 1 [.slice none 0 0] rfl rfl (lI (cs:=#[.slice none 0 0]) (t:=221) (fr:=(0,0)) (lP wr _)) (by simp[Value.oneCell']) (by omega) (by unfold maxLen;omega) (by omega) (by simp;omega) (wr.heap.size+1) (by simp) ?_;intro g1 cp1 w9 ho1 hg1 ha1 hl1)
     have HPo9:=Ab (HPo.more (by omega) (.slice none 0 0));have HPi9:Hid (El w9 W0 (.slice (some ⟨g1,0,none⟩) (ps++[([],Value.slice none 0 0)]).length cp1) (ps++[([],Value.slice none 0 0)])):=by
      refine⟨?_,λp hp=>?_,?_⟩
      .rw[lM];simp only[lu,lj,lO,me,lF,mx,lU];exact ho1
      .rcases lw.1 hp with h|h
       .exact bO (lg (HPi.each p h) _) (lg hO _) hg1
       .simp only[kY]at h;subst h;exact lH _ _ _ _
      .rw[oP];refine⟨HPi.apart,by simp,λa ha b hb q _ hq=>?_⟩;simp only[kY]at hb;subst hb;simp[Value.ownBlock]at hq
     have hkr:Ac [] w w9:=(HK.alloc (.cells #[.slice none 0 0] 221)).grown hg1 (λq hq=>Or.inr (by have:=(hO.lt q hq).1;have:=Aa HW0;omega));have HM9:Hid (Ez w9 mb n L):=by
      have hm1:=HM.zX ((pO [] wr).alloc (.cells #[.slice none 0 0] 221)) (by simp);refine hm1.zX (M:=(Value.slice ad ps.length cp).ownBlock.toList) ((pO _ _).grown hg1 (λq hq=>Or.inl (by rw[hq];simp))) (λhm=>?_);obtain⟨D,⟨es,clock,hb,_⟩,_⟩:=hm1.at_;rcases(lg hO (.cells #[.slice none 0 0] 221)).2 with⟨e,_⟩|⟨g',c',cur,e,_,hgg,_⟩
      .rw[e]at hm;simp[Value.ownBlock]at hm
      .rw[e]at hm;simp[Value.ownBlock]at hm;subst hm;rw[hgg]at hb;cases hb
     have HK9:=Ab hkr;clear ho1 hg1 ha1 hl1 hO hkr
     go_roundg (ly+2-(ps.length+1))
     case measure=>have:=Aa HG2;omega
     case rel=>exact⟨ps++[([],Value.slice none 0 0)],some ⟨g1,0,none⟩,cp1,by simp,by simp,HPo9,HPi9,HM9,HK9⟩
    ·(have hlei:¬(ps.length:Int)<=(ly:Int):=by omega);(have hjl:ly<ps.length:=by omega);(have hly0:(0:Int)<=(ly:Int):=by omega);(have hly1:(ly:Int)<(ps.length:Int):=by omega);obtain⟨g,cap,adl,cpl,he,hv,hcell⟩:=Tv HPi ly hjl;simp only[kS]at he;obtain⟨rfl,-,rfl⟩:=he;have hO:=HPi.each _ (kV hjl);rw[hv]at hO;have HV:=Ab hv;have hll1:ps[ly].1.length<=1000:=by
      rw[(Aa HPo).lists ly hjl];have:=mS (λi=>L (G8 pcs i)==ly) (List.range k);rw[List.length_range]at this;omega
     obtain⟨LL,hLL⟩:∃LL,ps[ly].1=LL:=⟨_,rfl⟩;have HLL:=Ab hLL;rw[hLL]at hO hll1 hcell HV;clear hLL hv;have hrow:=HPi.row;have HPa:=Ab (HPi.kept ((pO [] wr).alloc (.cells #[.int .i64 k] 3)));have HN9:Hid (∀w9:World,(wr.alloc (.cells #[.int .i64 k] 3)).grownBy w9 (Value.slice adl LL.length cpl).ownBlock->w9.ownsRow W0 221 1 (.slice (some ⟨g,0,none⟩) ps.length cp) ps.length (ps.flatMap λp=>[p.2])/\w9.frozen? ⟨g,ly,none⟩=false/\w9.cell? ⟨g,ly,none⟩=some (.slice adl LL.length cpl)):=by
      intro w9 hg1;have hrow9:w9.ownsRow W0 221 1 (.slice (some ⟨g,0,none⟩) ps.length cp) ps.length (ps.flatMap λp=>[p.2]):=mI (lg hrow (.cells #[.int .i64 k] 3)) hg1 (Or.inr (λe=>Bc hrow hO (by decide) g rfl e.symm));obtain⟨g',cap',he',_,hc'⟩:=AC hrow9 (λc _=>rfl) ly hjl;simp only[kS,ld,lW]at he';obtain⟨⟨rfl,-,-⟩,-,-⟩:=he';have d:=hc' ly hjl 0 (by omega);simp[Aa HV]at d;exact⟨hrow9,hrow9.frozenAt ly,d⟩
     go_wp2_with (at_builtin;refine lG _ rfl (.tmp 34) (.tmp 36) _ rfl W0 3 j0 _ 1 8 underlying221 hj0 hy0 hy1 hy2 rfl (by omega) (.slice adl LL.length cpl) LL.length (LL.flatMap Cd) rfl (lg hO _) ⟨wr.heap.size,0,none⟩ 1 1 [.int .i64 k] rfl rfl (lI (cs:=#[.int .i64 k]) (t:=3) (fr:=(0,0)) (lP wr _)) (by simp[Value.oneCell']) (by omega) (by unfold maxLen;omega) (by omega) (by simp;omega) (wr.heap.size+1) (by simp) ?_;intro g1 cp1 w9 ho1 hg1 ha1 hl1;have n9:=Aa HN9 w9 hg1;have f9:=n9.2.1;have c9:=n9.2.2;clear n9)
     have hx:w9.ownsRow W0 3 1 (.slice (some ⟨g1,0,none⟩) (LL++[k]).length cp1) (LL++[k]).length ((LL++[k]).flatMap Cd):=by
      rw[lM];simp only[lu,lj,lO,me,lF,mx,lU];exact ho1
     have HPi9:=Ab (El.put (x:=(LL++[k],Value.slice (some ⟨g1,0,none⟩) (LL++[k]).length cp1)) hjl HPa (by rw[Aa HV];exact hg1) hx (λq hq=>by
      simp only[Value.ownBlock,ld]at hq
      subst hq
      rw[Aa HV]
      rcases ha1 with h|h
      .exact Or.inl h
      .exact Or.inr (by simp;omega)) rfl)
     have HPo9:Hid (IZ (λi=>L (G8 pcs i)) (k+1) (ps.set ly (LL++[k],Value.slice (some ⟨g1,0,none⟩) (LL++[k]).length cp1))):=by
      have hf:=Aa HFk;have h:=HPo.put (by simp only[hf];exact hjl) (.slice (some ⟨g1,0,none⟩) (LL++[k]).length cp1);simp only[hf]at h;rw[Aa HLL]at h;exact h
     have hO2:=lg hO (.cells #[.int .i64 k] 3);have hnm:∀q,(Value.slice adl LL.length cpl).ownBlock=some q->q≠mb:=by
      intro q hq e;subst e;obtain⟨D,⟨es,clock,hb,_⟩,_⟩:=HM.at_;rcases hO.2 with⟨e,_⟩|⟨g',c',cur,e,_,hgg,_⟩
      .rw[e]at hq;simp[Value.ownBlock]at hq
      .rw[e]at hq;simp[Value.ownBlock]at hq;subst hq;rw[hgg]at hb;cases hb
     have hgm:g≠mb:=by
      intro e;subst e;obtain⟨D,⟨es,clock,hb,_⟩,_⟩:=HM.at_;rcases hrow.2 with⟨e,_⟩|⟨g',c',cur,e,_,hgg,_⟩
      .cases e
      .simp only[kS,ld,lW]at e;obtain⟨⟨rfl,-,-⟩,-,-⟩:=e;rw[hgg]at hb;cases hb
     have HM9:Hid (Ez (w9.setCell ⟨g,ly,none⟩ (.slice (some ⟨g1,0,none⟩) (LL.length+1) cp1)) mb n L):=by
      have hm1:=HM.zX ((pO [] wr).alloc (.cells #[.int .i64 k] 3)) (by simp);have hm2:=hm1.zX (M:=(Value.slice adl LL.length cpl).ownBlock.toList) ((pO _ _).grown hg1 (λq hq=>Or.inl (by rw[hq];simp))) (λhm=>hnm mb (by simpa using hm) rfl);exact hm2.zX (M:=[g]) ((pO [g] w9).setCell (p:=⟨g,ly,none⟩) (Or.inl (by simp)) _) (by simp;exact λe=>hgm e.symm)
     have HK9:=Ab (((HK.alloc (.cells #[.int .i64 k] 3)).grown hg1 (λq hq=>Or.inr (by have:=(hO.lt q hq).1;have:=Aa HW0;omega))).setCell (p:=⟨g,ly,none⟩) (Or.inr (by have:=(hrow.lt g rfl).1;have:=Aa HW0;simp;omega)) (.slice (some ⟨g1,0,none⟩) (LL.length+1) cp1));simp only[lu,lj,lO,me]at HPi9 HPo9;generalize w9.setCell ⟨g,ly,none⟩ (.slice (some ⟨g1,0,none⟩) (LL.length+1) cp1)=wz at HPi9 HM9 HK9⊢;clear ho1 hg1 ha1 hl1 hO hrow f9 c9 hx hO2 hnm hcell;go_wp2
     go_roundg (pcs.length-(k+1))
     case measure=>have:=Aa HG;omega
     case rel=>exact⟨k+1,ps.set ly (LL++[k],Value.slice (some ⟨g1,0,none⟩) (LL.length+1) cp1),some ⟨g,0,none⟩,cp,by simp,by go_num,by omega,rfl,HPo9,by rw[mQ];exact HPi9,HM9,HK9⟩
  .have HPo2:Hid (IZ (λi=>L (G8 pcs i)) pcs.length ps):=by
    (have e:k=pcs.length:=by omega);have h:=Aa HPo;rw[e]at h;exact h
   go_wp2;go_ret;exact⟨ad,cp,ps,L,rfl,by rw[Aa HW0];exact HPi,HPo2,HOk,HLe,HK⟩
structure Gv(w w':py):Prop where
 size:w.heap.size<=w'.heap.size
 at_:∀(q:Nat) (cs:Array p5) (t:TypeId) (fr:Nat×Nat),w.heap[q]?=V (j3 cs t fr)->t≠139->t≠104->t≠176->w'.heap[q]?=V (j3 cs t fr)
def Gv.refl(w:py):Gv w w:=⟨lC _,λ_ _ _ _ h _ _ _=>h⟩
def Gv.trans(h:Gv w v)(k:Gv v u):Gv w u:=⟨mp h.size k.size,λq e t i j f d g=>k.at_ q e t i (h.at_ q e t i j f d g) f d g⟩
def Gv.of(k:Ac M w v)(g:∀q∈M,∃(c:Array p5) (t:TypeId) (d:Nat×Nat),w.heap[q]?=V (j3 c t d)/\(t=139\/t=104\/t=176)):Gv w v:=by
 refine⟨k.size,λq c t d a i f l=>?_⟩;rw[k.block q (mc.1 a).1 (λe=>?_)]
 .exact a
 .obtain⟨m,n,o,b,j⟩:=g q e;rw[a]at b;simp only[ld,Obj.cells.injEq]at b;obtain⟨_,rfl,_⟩:=b;rcases j with h|h|h
  .exact i h
  .exact f h
  .exact l h
def Gv.kept{w w':py}(k:Ac [] w w'):Gv w w':=Gv.of k (λq a=>by simp at a)
def Gv.row(h:Gv w u){v:p5}(a:p9 w m k i v n y)(j:k≠139)(f:k≠104)(q:k≠176):p9 u m k i v n y:=by
 refine⟨a.1,?_⟩;rcases a.2 with l|⟨g,c,b,rfl,p,s,t,d,r,o⟩
 .exact oi l
 .exact oj ⟨g,c,b,rfl,p,h.at_ _ _ _ _ s j f q,t,d,r,o⟩
def Z3(h:AF w b y T):∃(c:Array p5) (a:TypeId) (d:Nat×Nat),w.heap[b]?=V (j3 c a d)/\a=T:=⟨_,_,_,h,rfl⟩
def Z9(h:p9 w m k i z n y){q:Nat}(a:z.ownBlock=V q):∃(d:Array p5) (b:TypeId) (j:Nat×Nat),w.heap[q]?=V (j3 d b j)/\b=k:=by
 rcases h.2 with⟨rfl,_⟩|⟨g,c,l,rfl,_,f,_⟩
 .simp[pI]at a
 .simp only[pI,ld]at a;subst a;exact⟨_,_,_,f,rfl⟩
def Cc(p:Nat×U3):pM p5:=KJ p.1 p.2
structure Ya(w:py)(B:Nat)(kv:p5)(hs:pM (Nat×GZ Af))(sts:pM (Nat×U3)):Prop where
 eq:sts.map (λp=>(p.1,p.2.f.f,p.2.ns.map Fa.f))=hs.map λh=>(h.1,BU h.2.head,h.2.pos.map BU)
 each:∀p∈sts,Lk w p.2/\∀q,p.2.n.ownBlock=V q->B<=q/\kv.ownBlock≠V q
def Ya.kept{w w':py}{B:Nat}{c:p5}{a:pM (Nat×GZ Af)}{d:pM (Nat×U3)}(h:Ya w B c a d)(k:Ac [] w w'):Ya w' B c a d:=⟨h.eq,λp b=>⟨(h.each p b).1.kept k,(h.each p b).2⟩⟩
structure ME(w0:py)(cb:Nat)(clv:p5)(X Y:pM Nat)(s:pM Af)(hs:pM (Nat×GZ Af))(w:py):Prop where
 kept:Ac [] w0 w
 yU:w0.heap.size<=cb
 out:∃(sad:Option Addr) (scp:Nat) (fs:pM Fa) (tad:Option Addr) (tcp:Nat) (sts:pM (Nat×U3)),AF w cb [clv,U sad (Z fs) scp,U tad (Z s) tcp] 139/\Jm w (U sad (Z fs) scp) fs/\Df fs s/\
  p9 w w0.heap.size 176 4 (U tad (Z s) tcp) (Z s) (sts.flatMap Cc)/\(∀q,(U sad (Z fs) scp).ownBlock=V q->w0.heap.size<=q/\q∉Y)/\(∀q,(U tad (Z s) tcp).ownBlock=V q->q∉X)/\Ya w w0.heap.size (U sad (Z fs) scp) hs sts
def ME.grow{a b:pM Nat}{c:pM (Nat×GZ Af)}(h:ME v n z a b f c w)(k:Ac [] w u):ME v n z a b f c u:=by
 obtain⟨x,q,r,g,e,l,m,i,t,j,p,d,o⟩:=h.out;exact⟨h.kept.trans k,h.yU,x,q,r,g,e,l,m.kept k,i.kept k,t,Ad j k,p,d,o.kept k⟩
abbrev jI:A4->pM Af->UInt8->pM zA->pM zA:=λc s=>Jc (Al c) s
abbrev IH(r:A4)(s:pM Af):pM Af:=Ss (Jc (Al r) s) r (CA r) (Dp r) s
structure Z4(pcs:pM Dy)(J:pM (Nat×GZ Af)->pM Af->Prop)(num:Nat)(r:A4)(hs:pM (Nat×GZ Af))(s:pM Af):Prop where
 lt:num<Z pcs
 cl:QK (pcs[num]'lt) r s
 nd:(IH r s).Nodup
 new:∀f∈IH r s,f∉s/\AL f/\Z f.args<=1000
 len:Z (IH r s)<=100000
 mid:∀IS:pM (GZ Af),IS.map GZ.head=IH r s->(∀i∈IS,∃σ,(∀x∈Al r,Cg (Bm σ) (Ed σ) s x=true)/\i=CG r σ)->∀j,J (hs++(IS.take j).map (Prod.mk num)) (((IH r s).take j).foldl A3 s)
def Uj{l:pM Af}(a:j<Z l):(l.take (j+1)).foldl A3 f=A3 ((l.take j).foldl A3 f) l[j]:=by
 rw[kW a,mi];rfl
def ec{l:pM Af}{s:pM Af}(t:Eb s)(v:∀f∈s,AL f)(x:l.Nodup)(h:∀f∈l,f∉s/\AL f):∀j (c:j<Z l),Eb ((l.take j).foldl A3 s)/\(∀f∈(l.take j).foldl A3 s,AL f)/\(∀f,f∈(l.take j).foldl A3 s↔f∈s\/f∈l.take j)/\l[j]∉(l.take j).foldl A3 s:=by
 have p:∀j,j<=Z l->Eb ((l.take j).foldl A3 s)/\(∀f∈(l.take j).foldl A3 s,AL f)/\(∀f,f∈(l.take j).foldl A3 s↔f∈s\/f∈l.take j):=by
  intro j
  induction j with
  |zero=>intro _;exact⟨t,v,λf=>by simp⟩
  |succ j ih=>
   intro c;obtain⟨o,k,d⟩:=ih (by omega);(have g:j<Z l:=by omega);have u:=(h _ (kV g)).2;obtain⟨a,b,m⟩:=CZ u o k;rw[Uj g];refine⟨a,b,λf=>?_⟩;rw[m,d,kW g,lw,kY,or_assoc]
 intro j c;obtain⟨o,k,d⟩:=p j (by omega);refine⟨o,k,d,λq=>?_⟩;rcases(d _).1 q with n|n
 .exact(h _ (kV c)).1 n
 .obtain⟨i,w,e⟩:=lX n;rw[l9]at w;rw[od]at e;have r:=nk.1 x i j (by omega) c (by omega);exact r e
def fg(f:Af):Z (BU f).zC=Z f.args:=by unfold BU;simp
theorem dS(HN:pM (Nat×GZ Af)->pM Af->Prop)(w0:py)(o:Nat)(BT:Option Addr)(BS:Nat)(AH:pM Dy)(a6:Option Addr)(UO:Nat)(ns:pM Nat)(ds:pM A4)(s:pM Af)(hs:pM (Nat×GZ Af))(w:py)(hP:DE w0 (U BT (Z AH) BS) AH)(b4:Z AH<=1000)(fy:Z ns<=1000)
  (hY:p9 w 0 3 1 (U a6 (Z ns) UO) (Z ns) (ns.flatMap Cd)) (hC:ME w0 o (U BT (Z AH) BS) [] [] s hs w) (hJ:HN hs s) (WS:∀hs s,HN hs s->Eb s/\(∀f∈s,AL f)/\Z s<=9000)
  (TK:∀hs s,HN hs s->F2 (λu r=>Z4 AH HN u r hs s) ns ds):
  Calls prog 124 #[m2 (V ⟨o,0,Y⟩),U a6 (Z ns) UO] w λr w'=>∃s' al,s'=(Gc (EN jI) ds s).1/\r=.returned (.bool (decide (Z s<Z s')))/\HN al s'/\ME w0 o (U BT (Z AH) BS) [] [] s' al w'/\Gv w w':=by
 obtain⟨i0,d0,co,d5,c8⟩:=mg Tryz.zr;have b2:=Ab hP;have cr:=Ab hY;have U1:=Ab hC;have HJ:=Ab hJ;have ad:=Ab WS;have ea:=Ab TK;have TS:p7 (Z ns=Z ds):=(TK hs s hJ).lenX;obtain⟨er,em,eT,e5,eh,fz,X2,_⟩:=hC.out;have c2:=X2.cell 2;simp at c2;obtain⟨S0,OB⟩:=pN (Z s);have b5:=Ab OB;rw[OB]at c2;clear hP hY hC hJ WS TK X2 OB;go_enter func124,ntmps124;go_wp2_with fail
 clear c2
 go_loopg [17] (Z ns) (λgk i wr=>∃(k:Nat) (s1:pM Af) (B0:pM (Nat×GZ Af)),i=X J k/\k<=Z ns/\gk=Z ns-k/\p7 (s1=((ds.take k).foldl (J4 (EN jI)) (s,false)).1)/\p7 (HN B0 s1)/\p7 (ME w0 o (U BT (Z AH) BS) [] [] s1 B0 wr)/\p7 (Gv w wr))
 case atStart=>exact⟨0,s,hs,rfl,by omega,rfl,rfl,HJ,U1,Gv.refl _⟩
 case round=>
  clear U1 HJ;obtain⟨k,s1,B0,rfl,hk,bt,TX,RT,FW,LB⟩:=hrel;have HG:=Ab bt;clear bt;by_cases Wa:k<Z ns
  ·(have a4:k<Z ds:=by have:=Aa TS;omega);have HI:=(ea B0 s1 RT).at k Wa a4;obtain⟨yg,e7,he,bz⟩:=ae (LB.row cr (by decide) (by decide) (by decide)) k Wa;simp only[kS]at he;obtain⟨rfl,-,rfl⟩:=he;obtain⟨u,b0⟩:=pN (ns[k]);rw[b0]at bz HI;obtain⟨r,S⟩:=pN (ds[k]);rw[S]at HI;have Dk:p7 (((ds.take (k+1)).foldl (J4 (EN jI)) (s,false)).1=(IH r s1).foldl A3 s1):=by
    show _=_;rw[kW a4,mi,S];have h:=Aa TX;rw[lR,List.foldl_nil];generalize(ds.take k).foldl (J4 (EN jI)) (s,false)=acc at h⊢;rw[h];rfl
   clear b0 S;obtain⟨ES,DT,N,W,T,xs,hb,HK,HO,HW,H0,hX,Ix⟩:=(Aa FW).out;have bb:=Ab (U2 o u BT BS AH ES DT N (U W (Z s1) T) r s1 wr HI.lt b4 hb (by exact(Aa b2).kept (Aa FW).kept) HK HO HI.cl HI.len);have HH:=Ab HI;(have e6:(0:Int)<=(k:Int):=by omega);(have en:(k:Int)<(Z ns:Int):=by omega);have af:p7 (∀w2 nv nn T0 (y:pM U3),Ac [] wr w2->p9 w2 wr.heap.size 176 4 nv nn T0->(∀m∈y,Lk w2 m/\fq wr.heap.size r s1 m)->ME w0 o (U BT (Z AH) BS) nv.ownBlock.toList (y.filterMap λm=>m.n.ownBlock) s1 B0 w2):=λw2 nv nn T0 y k2 hn AO=>⟨(Aa FW).kept.trans k2,(Aa FW).yU,ES,DT,N,W,T,xs,hb.kept k2,HK.kept k2,HO,Ad HW k2,λq d=>⟨(H0 q d).1,λR=>by
    obtain⟨m,NS,e⟩:=m3.1 R
    have M:=(HK.row.lt q d).2
    have L:=(AO m NS).2.1 q e
    omega⟩,λq d R=>by
    have M:=(HW.lt q d).2
    have L:=(hn.lt q (by simpa using R)).1
    omega,Ix.kept k2⟩
   clear HI hb HK HO HW H0 hX Ix;(go_wp2_with fail);refine bb.mono ?_;rintro _ w2 ⟨a9,LM,y,rfl,LC,Nq,KA,k2⟩;have XS:=Ab (LB.trans (Gv.kept k2));have eg:=Ab LC;have H7:=Ab (Am Nq (lz _));(have HV:p7 (∀m∈y,Lk w2 m):=λm AO=>(KA m AO).1);(have d6:p7 (∀m∈y,∀q,m.n.ownBlock=V q->w0.heap.size<=q):=λm AO q d=>mp FW.kept.size ((KA m AO).2.1 q d));obtain⟨IS,RE,a8,ao⟩:=Um y (IH r s1) LC (λf hf=>(HH.new f hf).2.1) (λm AO=>(KA m AO).2);have NN:=Ab RE;have dc:=Ab ao;have TV:=Ab (HH.mid IS RE a8);clear RE a8 ao;(have eB:Z y=Z (IH r s1):=by have:=congrArg List.length LC;simpa using this);have aa:=Ab (af w2 _ _ _ y k2 Nq KA);have et:=HH.len;clear bb LC Nq KA FW LB af bz k2;go_wp2_with fail
   go_loopg [25] (Z y) (λeb i wq=>∃(j:Nat),i=X J j/\j<=Z y/\eb=Z y-j/\p7 (ME w0 o (U BT (Z AH) BS) (U a9 (Z y) LM).ownBlock.toList (y.filterMap λm=>m.n.ownBlock) (((IH r s1).take j).foldl A3 s1) (B0++(IS.take j).map (Prod.mk u)) wq)/\p7 (p9 wq 0 176 4 (U a9 (Z y) LM) (Z y) (y.flatMap (KJ u)))/\p7 (∀m∈y,Lk wq m)/\p7 (Gv w wq))
   case atStart=>exact⟨0,rfl,by omega,rfl,(by simpa using aa),H7,HV,XS⟩
   case round=>
    clear aa H7 HV XS;obtain⟨j,rfl,hj,W3,Go,H7,HV,ap⟩:=hrel;have c7:=Ab W3;clear W3;by_cases EY:j<Z y
    ·(have K3:j<Z (IH r s1):=by omega);obtain⟨g,fp,he,_,H5⟩:=AC H7 (λc _=>rfl) j EY;simp only[kS]at he;obtain⟨rfl,-,rfl⟩:=he;have e0:=H5 j EY 0 (by omega);have e1:=H5 j EY 1 (by omega);have e2:=H5 j EY 2 (by omega);have e3:=H5 j EY 3 (by omega);obtain⟨K8,RB,H2,Q,P,hn⟩:=HV _ (kV EY);(have Jx:∀q,y[j].n.ownBlock=V q->w0.heap.size<=q/\q∈y.filterMap λm=>m.n.ownBlock:=λq d=>⟨d6 _ (kV EY) q d,m3.2 ⟨_,kV EY,d⟩⟩);(have WW:j<Z IS:=by have h:=congrArg List.length NN;rw[lm]at h;omega);(have ba:p7 ((IS.take (j+1)).map (Prod.mk u)=(IS.take j).map (Prod.mk u)++[(u,IS[j])]):=by show _=_;rw[kW WW,lV];rfl);have H9:(y[j].f.f,y[j].ns.map Fa.f)=(BU IS[j].head,IS[j].pos.map BU):=by
      have h:=congrArg (λl=>l[j]?) dc;simp only[mA,lc EY,lc WW,m0,ld]at h;exact h
     obtain⟨IJ,ab⟩:=pN (IS[j]);rw[ab]at ba H9;clear ab;have KB:y[j].f.f=BU (IH r s1)[j]:=by
      have h:=congrArg (λl=>l[j]?) eg;simp only[mA,lc EY,lc K3,m0,ld]at h;exact h
     obtain⟨⟨⟨⟨A,BA⟩,fv⟩,nv,SB⟩,AO⟩:∃m,y[j]=m:=⟨_,rfl⟩;rw[AO]at e0 e1 e2 e3 K8 RB hn KB H2 Jx H9;have db:=Ab AO;obtain⟨C,B,br⟩:=Ak K8;simp only at br hn RB KB H2 Jx H9;subst br hn;obtain⟨I,ST⟩:=pN (Z SB);rw[ST]at e0 e1 e2 e3 H2 Jx;have cL:=Ab ST;have fa:=Ab H2;have YP:=Ab Jx;have df:=Ab H9;clear ST H2 Jx H9;obtain⟨z,Pl⟩:=pN (Z BA);simp[KJ,Pl]at e0 e1 e2 e3;obtain⟨F,hF⟩:=pN ((IH r s1)[j]);rw[hF]at KB;have bv:=HH.new F (by rw[<-hF];exact kV K3);have RV:=Aa ad B0 s1 RT;have MN:=ec RV.1 RV.2.1 HH.nd (λf hf=>⟨(HH.new f hf).1,(HH.new f hf).2.1⟩) j K3;rw[hF]at MN;(have X0:p7 (((IH r s1).take (j+1)).foldl A3 s1=A3 (((IH r s1).take j).foldl A3 s1) F):=by show _=_;rw[Uj K3,hF]);have K6:=Aa ad _ _ (TV j);obtain⟨SJ,U0⟩:=pN (((IH r s1).take j).foldl A3 s1);rw[U0]at Go MN X0 K6;have W0:=Ab MN;have H1:=Ab KB;have c6:=Ab K8;have PT:=Ab bv;have b1:=Ab Pl;obtain⟨ES,DT,N,W,T,xs,hb,HK,HO,HW,H0,hX,Ix⟩:=(Aa Go).out;have ch:=HO.len;have HB:=Ab hb;have OH:=Ab HK;have N0:=Ab HO;have W1:=Ab HW;have TL:=Ab H0;have HX:=Ab hX;have HS:=Ab Ix;(have f1:(0:Int)<=(j:Int):=by omega);(have ek:(j:Int)<(Z y:Int):=by omega);obtain⟨G,ar⟩:=pN (Z SJ);have M2:=Ab ar;(have c0:p7 (G<=9000):=by show G<=9000;have:=K6.2.2;omega);(have cB:p7 (Z N<=9000):=by show Z N<=9000;have:=K6.2.2;omega);have MY:=Ab (pP wr [O A,U C z B,X J u,U Q I P] 176);have L0:=Ab ((pO [] wr).alloc (j3 [O A,U C z B,X J u,U Q I P].toArray 176));clear hb HK HO HW H0 hX Ix MN bv RV hF KB K8 AO H5 U0 K6 ch Pl RB ar;refine pL (λK1 CL=>?_);go_wp2;refine CL _ _ ?_;clear CL K1;refine pL (λK1 CL=>?_);go_wp2;refine CL _ _ ?_;clear CL K1;refine pL (λK5 a2=>?_);refine wp_block ?_;refine pL (λK1 CL=>?_);go_wp2;refine CL _ _ ?_;clear CL K1 e0 e1 e2 e3;change Code.wp _ _ _ _ (wr.alloc (j3 [O A,U C z B,X J u,U Q I P].toArray 176));generalize hw3:wr.alloc (j3 [O A,U C z B,X J u,U Q I P].toArray 176)=w3 at MY L0⊢;clear hw3;obtain⟨E,TH⟩:=pN wr.heap.size;have cv:=Ab TH;rw[TH]at MY⊢;clear TH;have RO:p7 (∀D,AF D E [O A,U C z B,X J u,U Q I P] 176->p8 D ⟨E,0,Y⟩=V (O A)/\p8 D ⟨E,1,Y⟩=V (U C z B)/\p8 D ⟨E,2,Y⟩=V (X J u)/\p8 D ⟨E,3,Y⟩=V (U Q I P)):=by
      intro D hb;have h0:=hb.cell 0;have M:=hb.cell 1;have L:=hb.cell 2;have h3:=hb.cell 3;simp at h0 M L h3;exact⟨h0,M,L,h3⟩
     have A1:=Ab (RO w3.drew MY);refine pL (λK1 CL=>?_);refine CH 6 (λD=>p8 D ⟨E,0,Y⟩=V (O A)/\p8 D ⟨E,1,Y⟩=V (U C z B)/\p8 D ⟨E,2,Y⟩=V (X J u)/\p8 D ⟨E,3,Y⟩=V (U Q I P)) (by kernel_rfl) ?_;refine CF.tqH (i:=0) (v:=m2 (V ⟨o,0,Y⟩)) rfl (λ_ _ _ h=>h) A1 ?_;simp only[pJ,kR,kT,kU];refine CF.tqH (i:=1) (v:=m2 (V ⟨o,0,Y⟩)) rfl (λ_ _ _ h=>h) A1 ?_;simp only[pJ,kR,kT,kU];refine CF.tqH (i:=2) (v:=m2 (V ⟨o,1,Y⟩)) rfl (λ_ _ _ h=>h) A1 ?_;simp only[pJ,kR,kT,kU];refine CF.tqH (i:=3) (v:=m2 (V ⟨E,0,Y⟩)) rfl (λ_ _ _ h=>h) A1 ?_;simp only[pJ,kR,kT,kU];refine CF.tqH (i:=4) (v:=.agg #[O A,U C z B]) rfl (λ_ _ _ h=>h) A1 ?_;simp only[pJ,kR,kT,kU];refine CF.one (i:=5) (by kernel_rfl) rfl (λEM hK=>?_)
     go_simp
     have HC:Ac [] wr w3.drew:=L0.drew;have M6:=Ab (R4 o 1 [U BT (Z AH) BS,U ES (Z N) DT,U W (Z SJ) T] 139 ES DT N ⟨⟨A,BA⟩,U C (Z BA) B⟩ w3.drew (HB.kept HC) rfl (by decide) (by decide) (OH.kept HC) (c6.kept HC) (by show Z BA<=1000;have h:=congrArg (λp=>Z p.zC) H1;simp only[fg]at h;have:=PT.2.2;omega) (by have:=Aa cB;omega) (N0.mono _));simp only[A6]at M6;rw[Aa b1]at M6;refine M6.mono ?_;rintro _ H ⟨rfl,hA⟩;have HP:AF w3.drew E [O A,U C z B,X J u,U Q I P] 176:=MY;have MB:=HB.kept HC;have Op:=OH.kept HC;have X3:E∉o::(U ES (Z N) DT).ownBlock.toList:=by
      intro R;rcases kZ.1 R with h|h
      .rw[h]at HP;unfold AF at HP MB;rw[MB]at HP;simp at HP
      .exact As Op.row HP (by decide) (by simpa using h)
     have Nj:=HP.kept hA.kept X3;refine hK.out _ _ (λ_=>RO _ Nj) ?_;clear hK EM;refine CF.done (by kernel_rfl) ?_ _
     try simp only[pJ,kR,kT,kU]
     refine CL _ _ ?_;clear CL K1 A1 M6;obtain⟨p,HU,HR,hcut,H8,bn,NV⟩:=hA.out;simp only[kU,kT]at H8;have QR:Gs N (BU F) p:=by
      have h:=hcut;simp only at h;rw[Aa H1]at h;exact h
     have NL:ER N ⟨A,BA⟩ p=false:=by
      rw[Aa H1,(Aa N0).yD (Aa PT).2.1 QR];cases hh:C3 SJ F with
      |false=>rfl
      |true=>exact absurd ((BK _ _).1 hh) W0.2.2.2
     have c1:p7 (Df (MM N ⟨⟨A,BA⟩,U C z B⟩ p) (A3 SJ F)):=by
      have h:=N0.z6 (x:=⟨⟨A,BA⟩,U C z B⟩) H1 PT.2.1 QR (by rw[<-Aa H1];exact NL);unfold MM;simp only[NL,k0,if_false];exact h
     (have Nx:p7 (Z (A3 SJ F)=G+1):=by show _=_;rw[(Lt SJ F).2 (Aa W0).2.2.2,Aa M2]);have H3:=Ab bn;have bx:p7 (∀q,(U HU (Z (MM N ⟨⟨A,BA⟩,U C z B⟩ p)) HR).ownBlock=V q->w0.heap.size<=q/\q∉y.filterMap λm=>m.n.ownBlock):=by
      intro q d;rcases NV q d with h|h
      .exact TL q h
      .have M:w3.heap.size<=q:=h;have L:=Go.kept.size;have h3:=L0.size;refine⟨by omega,λR=>?_⟩;obtain⟨m,NS,e⟩:=m3.1 R;have h4:=((HV m NS).nds.row.lt q e).2;omega
     have c4:p7 (∀p'∈xs,∀q,p'.2.n.ownBlock=V q->(U HU (Z (MM N ⟨⟨A,BA⟩,U C z B⟩ p)) HR).ownBlock≠V q):=by
      intro p' HF q d he;rcases NV q he with h|h
      .exact((HS.each p' HF).2 q d).2 h
      .have M:w3.heap.size<=q:=h;have h4:=((HS.each p' HF).1.nds.row.lt q d).2;have h3:=L0.size;omega
     have Mo:Ac (o::(U ES (Z N) DT).ownBlock.toList) wr H:=((HC.mono (by simp)).trans hA.kept);have b6:p7 (Gv w H):=ap.trans ((Gv.kept HC).trans (Gv.of hA.kept (λq d=>by
      rcases kZ.1 d with rfl|d
      .obtain⟨a,b,c,M,L⟩:=Z3 MB
       exact⟨a,b,c,M,oi L⟩
      .obtain⟨a,b,c,M,L⟩:=Z9 Op.row (q:=q) (by simpa using d)
       exact⟨a,b,c,M,oj (oi L)⟩)))
     have bp:p7 (Ac [] w0 H):=Go.kept.trans' Mo (λq d=>oj (by
      rcases kZ.1 d with rfl|d
      .exact Go.yU
      .exact(TL q (by simpa using d)).1))
     have H6:∀{b e sz n:Nat} {v:p5} {ys:pM p5},p9 wr b e sz v n ys->e≠139->e≠104->p9 H b e sz v n ys:=fun{b e sz n v ys} S M L=>Ai S Mo (λq d R=>by
      rcases kZ.1 R with rfl|R
      .exact As S HB M d
      .exact Bc S OH.row L q d (by simpa using R))
     have NY:=H6 W1 (by decide) (by decide);rw[Aa M2]at NY;have HL:=Ab NY;have VS:=Ab (H6 H7 (by decide) (by decide));have P0:∀{b sz n:Nat} {v:p5} {ys:pM p5},p9 wr b 104 sz v n ys->(∀q,v.ownBlock=V q->(U ES (Z N) DT).ownBlock≠V q)->p9 H b 104 sz v n ys:=fun{b sz n v ys} S L=>Ai S Mo (λq d R=>by
      rcases kZ.1 R with rfl|R
      .exact As S HB (by decide) d
      .exact L q d (by simpa using R))
     (have VR:p7 (∀m∈y,Lk H m):=λm AO=>(HV m AO).map (λp hp=>H6 (v:=p.tv) hp (by decide) (by decide)) (λS=>P0 S (λq d he=>(TL q he).2 (m3.2 ⟨m,AO,d⟩))));(have d7:p7 (∀p'∈xs,Lk H p'.2):=λp' HF=>(HS.each p' HF).1.map (λp hp=>H6 (v:=p.tv) hp (by decide) (by decide)) (λS=>P0 S (λq d=>((HS.each p' HF).2 q d).2)));have b9:p7 (Lk H ⟨⟨⟨A,BA⟩,U C z B⟩,U Q I P,SB⟩):=by
      have h:=Aa VR _ (kV EY);rw[Aa db,Aa cL,Aa b1]at h;exact h
     have a1:=Ab Nj;have NB:p7 (∀q,(U W G T).ownBlock=V q->q<E/\q∉(U (V ⟨g,0,Y⟩) (Z y) LM).ownBlock.toList):=λq d=>by
      have M:=Aa W1;have L:=Aa HX;rw[Aa M2]at M L;have h3:=(M.lt q d).2;have h4:=Aa cv;exact⟨by omega,L q d⟩
     rw[Aa M2]at H8;obtain⟨FL,QQ⟩:=pN (Z (MM N ⟨⟨A,BA⟩,U C z B⟩ p));have cx:=Ab QQ;have Os:p7 (AF H o [U BT (Z AH) BS,U HU FL HR,U W G T] 139):=by
      rw[QQ]at H8;exact H8
     clear hA HP MB Op X3 Nj HC hcut QR H8 bn NV NL Mo NY QQ H6 P0;have JA:p7 (∀D,AF D E [O A,U C z B,X J u,U Q I P] 176->AF D o [U BT (Z AH) BS,U HU FL HR,U W G T] 139->p8 D ⟨o,2,Y⟩=V (U W G T)/\p8 D ⟨E,0,Y⟩=V (O A)/\p8 D ⟨E,1,Y⟩=V (U C z B)/\p8 D ⟨E,2,Y⟩=V (X J u)/\p8 D ⟨E,3,Y⟩=V (U Q I P)):=by
      intro D hb hc;have h0:=hc.cell 2;simp at h0;exact⟨h0,RO D hb⟩
     have A1:=Ab (JA H.drew a1 Os);refine CH 10 (λD=>p8 D ⟨o,2,Y⟩=V (U W G T)/\p8 D ⟨E,0,Y⟩=V (O A)/\p8 D ⟨E,1,Y⟩=V (U C z B)/\p8 D ⟨E,2,Y⟩=V (X J u)/\p8 D ⟨E,3,Y⟩=V (U Q I P)) (by kernel_rfl) ?_;refine CF.tq (i:=0) (v:=m2 (V ⟨o,0,Y⟩)) rfl (λ_ _ _ h=>h) A1 ?_;simp only[pJ,kR,kT,kU];refine CF.tq (i:=1) (v:=m2 (V ⟨o,0,Y⟩)) rfl (λ_ _ _ h=>h) A1 ?_;simp only[pJ,kR,kT,kU];refine CF.tq (i:=2) (v:=m2 (V ⟨o,0,Y⟩)) rfl (λ_ _ _ h=>h) A1 ?_;simp only[pJ,kR,kT,kU];refine CF.tq (i:=3) (v:=m2 (V ⟨o,2,Y⟩)) rfl (λ_ _ _ h=>h) A1 ?_;simp only[pJ,kR,kT,kU];refine CF.tq (i:=4) (v:=U W G T) rfl (λ_ _ _ h=>h) A1 ?_;simp only[pJ,kR,kT,kU];refine CF.tq (i:=5) (v:=.agg #[O A,U C z B,X J u,U Q I P]) rfl (λ_ _ _ h=>h) A1 ?_;simp only[pJ,kR,kT,kU];refine CF.one (i:=6) (by kernel_rfl) rfl (λEM hK=>?_)
     go_simp
     have SK:AF (H.drew.alloc (j3 #[O A,U C z B,X J u,U Q I P] 176)) E [O A,U C z B,X J u,U Q I P] 176:=AF.alloc (w:=H.drew) a1 _;have N2:AF (H.drew.alloc (j3 #[O A,U C z B,X J u,U Q I P] 176)) o [U BT (Z AH) BS,U HU FL HR,U W G T] 139:=AF.alloc (w:=H.drew) Os _;refine hK.out _ _ (λ_=>JA _ SK N2) ?_;clear hK EM
     try simp only[pJ,kR,kT,kU]
     have NA:p9 H.drew w0.heap.size 176 4 (U W G T) G (xs.flatMap Cc):=HL;have cp:w0.heap.size<=H.heap.size:=bp.size;have e4:=Aa c0;refine CF.one (i:=7) (by kernel_rfl) rfl (λEM hK=>?_);refine oC _ (by rfl) _ _ _ (by rfl) w0.heap.size 176 i0 _ 4 72 underlying137 d0 co d5 c8 rfl (by omega) (U W G T) G (xs.flatMap Cc) (by rfl) (lg NA _)
      ⟨H.drew.heap.size,0,Y⟩ 1 1 [O A,U C z B,X J u,U Q I P] (by rfl) (by rfl) (lI (lP H.drew _)) (by simp[Value.oneCell'])
      (by omega) (by unfold maxLen;omega) (by omega) (by simp;exact Nat.le_succ_of_le cp) (H.heap.size+1) (by simp) ?_
     intro gg Ha u3 N4 LE an d1;have KK:=SK.grown LE (λe=>by have:=(NB E e).1;omega);have E0:=N2.grown LE (As NA Os (by decide));refine hK.out _ _ (λ_=>JA _ KK E0) ?_;clear hK EM
     try simp only[pJ,kR,kT,kU]
     refine CF.one (i:=8) (by kernel_rfl) rfl (λEM hK=>?_)
     go_simp
     refine hK.out _ _ (λ_=>JA _ KK E0) ?_;clear hK EM
     try simp only[pJ,kR,kT,kU]
     refine CF.one (i:=9) (by kernel_rfl) rfl (λEM hK=>?_)
     go_simp
     refine hK.out _ _ (λ_=>JA _ KK E0) ?_;clear hK EM
     try simp only[pJ,kR,kT,kU]
     have VL:=E0.cell 2;have d2:=E0.frozen 2;simp at VL;refine CF.one (i:=10) (by kernel_rfl) rfl (λEM hK=>?_)
     go_simp
     refine hK.out _ _ (λh=>absurd rfl h) ?_;clear hK EM;refine CF.done (by kernel_rfl) ?_ _
     try simp only[pJ,kR,kT,kU]
     have M1:Ac ((U W G T).ownBlock.toList) H u3:=(((pO _ H).drew).alloc (j3 #[O A,U C z B,X J u,U Q I P] 176)).grown LE (λq d=>oi (by rw[d];simp));have NX:Ac [o] u3 (u3.setCell ⟨o,2,Y⟩ (U (V ⟨gg,0,Y⟩) (G+1) Ha)):=(pO [o] u3).setCell (p:=⟨o,2,Y⟩) (oi (by simp)) _;have HT:∀{b e sz n:Nat} {v:p5} {ys:pM p5},p9 H b e sz v n ys->e≠139->(∀q,v.ownBlock=V q->(U W G T).ownBlock≠V q)->p9 (u3.setCell ⟨o,2,Y⟩ (U (V ⟨gg,0,Y⟩) (G+1) Ha)) b e sz v n ys:=fun{b e sz n v ys} S M L=>by
      have h3:=Ai S M1 (λq d R=>L q d (by simpa using R));exact Ag h3 (As h3 E0 M) _
     (have K4:∀m,Lk H m->Lk (u3.setCell ⟨o,2,Y⟩ (U (V ⟨gg,0,Y⟩) (G+1) Ha)) m:=λm h=>h.map (λp hp=>HT (v:=p.tv) hp (by decide) (λq d=>Bc (v1:=p.tv) hp HL (by decide) q d)) (λS=>HT S (by decide) (λq d=>Bc S HL (by decide) q d)));have a0:p7 (ME w0 o (U BT (Z AH) BS) (U (V ⟨g,0,Y⟩) (Z y) LM).ownBlock.toList (y.filterMap λm=>m.n.ownBlock) (((IH r s1).take (j+1)).foldl A3 s1) (B0++(IS.take (j+1)).map (Prod.mk u)) (u3.setCell ⟨o,2,Y⟩ (U (V ⟨gg,0,Y⟩) (G+1) Ha))):=by
      rw[Aa X0,Aa ba,<-mo];refine⟨(bp.trans' M1 (λq d=>oj (HL.lt q (by simpa using d)).1)).trans' NX (λq d=>oj (by simp only[kY]at d;rw[d];exact Go.yU)),Go.yU,HU,HR,MM N ⟨⟨A,BA⟩,U C z B⟩ p,V ⟨gg,0,Y⟩,Ha,xs++[(u,⟨⟨⟨A,BA⟩,U C z B⟩,U Q I P,SB⟩)],?_,⟨?_,λq d=>⟨?_,?_⟩⟩,c1,?_,bx,?_,?_,λp' HF=>?_⟩
      .rw[Aa Nx,Aa cx];exact E0.set 2 _
      .exact HT H3.row (by decide) (λq d=>Bc H3.row HL (by decide) q d)
      .exact HT (v:=q.tv) (H3.each q d).1 (by decide) (λq' dT=>Bc (v1:=q.tv) (H3.each q d).1 HL (by decide) q' dT)
      .exact(H3.each q d).2
      .rw[Aa Nx,lM];exact Ag N4 (As N4 E0 (by decide)) _
      .rw[Aa Nx];intro q d;simp only[pI,ld]at d;subst d;rcases an with h|h
       .exact(NB gg h).2
       .intro R;have M:=(VS.lt gg (by simpa using R)).2;omega
      .have h:=Aa df;simp only[lZ]at h;rw[lV,lV,(Aa HS).eq];simp only[lE,m8,h.1,h.2]
      .rcases lw.1 HF with h|h
       .exact⟨K4 _ (d7 p' h),λq d=>⟨((HS.each p' h).2 q d).1,c4 p' h q d⟩⟩
       .simp only[kY]at h;subst h;exact⟨K4 _ b9,λq d=>⟨(YP q d).1,λhe=>(bx q he).2 (YP q d).2⟩⟩
     have ag:=Ab (HT VS (by decide) (λq d h=>(NB q h).2 (by rw[d];simp)));(have ZV:p7 (∀m∈y,Lk (u3.setCell ⟨o,2,Y⟩ (U (V ⟨gg,0,Y⟩) (G+1) Ha)) m):=λm AO=>K4 m (VR m AO));have bs:p7 (Gv w (u3.setCell ⟨o,2,Y⟩ (U (V ⟨gg,0,Y⟩) (G+1) Ha))):=(b6.trans (Gv.of M1 (λq d=>by
      obtain⟨a,b,c,M,L⟩:=Z9 HL (q:=q) (by simpa using d)
      exact⟨a,b,c,M,oj (oj L)⟩))).trans (Gv.of NX (λq d=>by
      simp only[kY]at d
      rw[d]
      obtain⟨a,b,c,M,L⟩:=Z3 E0
      exact⟨a,b,c,M,oi L⟩))
     generalize u3.setCell ⟨o,2,Y⟩ (U (V ⟨gg,0,Y⟩) (G+1) Ha)=w6 at a0 ag ZV bs⊢;clear N4 LE an d1 KK E0 SK N2 NA VL d2 M1 NX HT K4 A1;refine a2 _ _ ?_;clear a2;go_wp2
     go_roundg (Z y-(j+1))
     case measure=>have:=Aa c7;omega
     case rel=>exact⟨j+1,by go_num,by omega,rfl,a0,ag,ZV,bs⟩
    .have ca:p7 (ME w0 o (U BT (Z AH) BS) [] [] ((IH r s1).foldl A3 s1) (B0++IS.map (Prod.mk u)) wr):=by
      have h:=Aa Go;rw[kX (by omega),kX (by have h:=congrArg List.length (Aa NN);rw[lm]at h;omega)]at h;obtain⟨ES,DT,N,W,T,xs,g1,g2,g3,g4,g5,g6,g7⟩:=h.out;exact⟨h.kept,h.yU,ES,DT,N,W,T,xs,g1,g2,g3,g4,λq d=>⟨(g5 q d).1,by simp⟩,λq d=>by simp,g7⟩
     have b7:p7 (HN (B0++IS.map (Prod.mk u)) ((IH r s1).foldl A3 s1)):=by
      have h:=Aa TV (Z (IH r s1));rw[ni,kX (by have h:=congrArg List.length (Aa NN);rw[lm]at h;omega)]at h;exact h
     go_wp2_with fail
     go_roundg (Z ns-(k+1))
     case measure=>have:=Aa HG;omega
     case rel=>exact⟨k+1,(IH r s1).foldl A3 s1,B0++IS.map (Prod.mk u),by go_num,by omega,rfl,Dk.symm,b7,ca,ap⟩
  .have HE:p7 (s1=(Gc (EN jI) ds s).1):=by
    have h:=Aa TX;rw[kX (by have:=Aa TS;omega)]at h;exact h
   obtain⟨ES,DT,N,W,T,xs,hb,_⟩:=(Aa FW).out;have c2:=hb.cell 2;simp at c2;obtain⟨S1,SP⟩:=pN (Z s1);rw[SP]at c2;have d4:=Ab SP;clear hb SP;go_wp2;go_ret;refine⟨s1,B0,HE,?_,RT,FW,LB⟩;rw[Aa b5,Aa d4]
   first|rfl|(simp;done)|simp
