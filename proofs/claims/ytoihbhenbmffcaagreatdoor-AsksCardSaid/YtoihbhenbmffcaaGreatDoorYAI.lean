import Derived.Test.YtoihbhenbmffcaaGreatDoorYAD
import Derived.Test.YtoihbhenbmffcaaGreatDoorYAB
set_option linter.all false
set_option maxHeartbeats 0
namespace Go.Proofs.YtoihbhenbmffcaaGreatDoor
open Go.RowKit Go.Proofs.Tryz
theorem Tryz.zT:(Tryz.prog.info? 217).map (λi=>(i.zero,i.size,i.bytes))=some (some (.agg #[.int .i64 0,.int .i64 0,.int .i64 0,.string ⟨#[]⟩,.slice none 0 0,.int .i32 0,.string ⟨#[]⟩,.int .i32 0,.string ⟨#[]⟩]),9,112):=by kernel_rfl
structure PL where
 place:Int
 sort:Int
 ap:Int
 an:cR
 ts:List A3
 l:A3
 r:A3
def IZ:X2->PL
 | .inl (pl,so,p,s,ts)=>⟨pl,so,p,s,ts,Ay,Ay⟩
 | .inr c=>⟨c.place,c.sort,0,ByteArray.empty,[],c.left,c.right⟩
abbrev JF:=PL×Value
def Aq(p:JF):List Value:=[.int .i64 p.1.place,.int .i64 p.1.sort,.int .i64 p.1.ap,.string p.1.an,p.2,.int .i32 p.1.l.v,.string p.1.l.s,.int .i32 p.1.r.v,.string p.1.r.s]
def Jf(w:World)(base:Nat)(p:JF):Prop:=w.ownsRow base 215 2 p.2 p.1.ts.length (p.1.ts.flatMap Ao)
theorem Jf.gI{M:List Nat}{w w':World}{base:Nat}{p:JF}(h:Jf w base p)(k:Ac M w w')(a:∀i,p.2.ownBlock=some i->i∉M):Jf w' base p:=Al h k a
theorem Jf.kept{M:List Nat}{w w':World}{base:Nat}{p:JF}(h:Jf w base p)(k:Ac M w w')(a:∀i,i∈M->i<base):Jf w' base p:=Ad h k a
theorem Vh.uni{b:Nat}{o:Value}{ms:List AW}{k:Int}{w w':World}{e:Ending}{r n:Nat}{l:X2}(d:GU ms r=.ok (l,n))(h:Vh b o ms k w e w' (.ok (l,n))):
  ∃g f,e=.returned (.tuple #[.agg (Aq (IZ l,.slice g (IZ l).ts.length f)).toArray,.bool true])/\Jf w' w.heap.size (IZ l,.slice g (IZ l).ts.length f)/\BU w' b o ms n k/\Ac [b] w w':=by
 cases l with
 |inl a=>
  obtain⟨D,x,p,s,F⟩:=a;obtain⟨z,y,rfl,t,m,j,i⟩:=h;obtain⟨g,f,rfl⟩:=Aj m;exact⟨g,f,rfl,Ak m t,j,i⟩
 |inr c=>
  have v:GR ms r=.ok (c,n):=by
   unfold GU at d;split at d
   .split at d<;>simp at d
   .split at d
    .split at d<;>simp at d
    .split at d
     .simp at d
     .rename_i u;simp only[de,cP,Sum.inr.injEq]at d;rw[u];simp[d]
  have q:=QE v;obtain⟨f,A,B,E,C⟩:=c;simp only at q;subst q;obtain⟨rfl,j,i⟩:=h;exact⟨none,0,rfl,ck _ _ _ _,j,i⟩
theorem OI{ms:List AW}:∀(k a:Nat) (c:List A3) {b:List A3} {n:Nat},ms.length-a<=k->FT ms a c=.ok (b,n)->a<n
 |k,a,c,b,n,hk,h=>by
  unfold FT at h;split at h
  .rename_i d;split at h
   .cases h
   .split at h
    .match k with
     |0=>omega
     |k+1=>have:=OI k (a+2) _ (by omega) h;omega
    .split at h
     .simp only[de,cP]at h;omega
     .cases h
  .cases h
theorem Kt{ms:List AW}{b:Nat}{a:Nat×cR×List A3}{n:Nat}(h:Et ms b=.ok (a,n)):b<n:=by
 unfold Et at h;split at h
 .split at h
  .split at h
   .cases h
   .rename_i c;simp only[de,cP]at h;have:=OI _ _ _ (bZ _) c;omega
  .cases h
 .cases h
theorem Xd{ms:List AW}{a:Nat}{l:XZ}{n:Nat}(h:GR ms a=.ok (l,n)):a<n:=by
 unfold GR at h;split at h
 .cases h
 .rename_i c;have d:=Fn c;split at h
  .cases h
  .split at h
   .cases h
   .rename_i b;have e:=Fn b;simp only[de,cP]at h;omega
theorem Hw{ms:List AW}{b:Nat}{l:X2}{n:Nat}(h:GU ms b=.ok (l,n)):b<n:=by
 unfold GU at h;split at h
 .split at h
  .cases h
  .rename_i a;have:=Kt a;simp only[de,cP]at h;omega
 .split at h
  .split at h
   .cases h
   .rename_i a;have:=Kt a;simp only[de,cP]at h;omega
  .split at h
   .cases h
   .rename_i a;have:=Xd a;simp only[de,cP]at h;omega
def D9(ms:List AW)(nx:Nat)(acc:List PL):Except Int (List PL×Nat):=
 if _h:nx<ms.length then
  match GU ms nx with
  | .error p=> .error p
  | .ok (l,n)=>
   if _h2:nx<n then
    if BF (An ms n) G7 then D9 ms (n+1) (acc++[IZ l])else .ok (acc++[IZ l],n)
   else .error 0
 else .error 0
theorem GZ{ms:List AW}{a:Nat}{acc:List PL}{p:Int}(h:a<ms.length)(b:GU ms a=.error p):D9 ms a acc=.error p:=by
 unfold D9;simp[h,b]
theorem LJ{ms:List AW}{a:Nat}{acc:List PL}{l:X2}{n:Nat}(h:a<ms.length)(b:GU ms a=.ok (l,n)):
  D9 ms a acc=if BF (An ms n) G7 then D9 ms (n+1) (acc++[IZ l])else .ok (acc++[IZ l],n):=by
 have c:=Hw b
 conv=>lhs;unfold D9
 simp[h,b,c]
structure BI(w:World)(base:Nat)(v:Value)(ls:List JF):Prop where
 row:w.ownsRow base 217 9 v ls.length (ls.flatMap Aq)
 each:∀p∈ls,Jf w base p/\BP p.2 v
theorem BI.kept{M:List Nat}{w w':World}{base:Nat}{v:Value}{ls:List JF}(h:BI w base v ls)(k:Ac M w w')(b:∀i,i∈M->i<base):BI w' base v ls:=
 ⟨Ad h.row k b,λp a=>⟨(h.each p a).1.kept k b,(h.each p a).2⟩⟩
theorem BI.base{w:World}{base base':Nat}{v:Value}{ls:List JF}(h:BI w base v ls)(b:base'<=base):BI w base' v ls:=
 ⟨Ak h.row b,λp a=>⟨Ak (h.each p a).1 b,(h.each p a).2⟩⟩
theorem BI.nil(w:World)(base:Nat):BI w base (.slice none 0 0) []:=⟨ck _ _ _ _,λp a=>by simp at a⟩
def ZE(b:Nat)(mv:Value)(ms:List AW)(br:Int)(w:World)(e:Ending)(w':World):Except Int (List PL×Nat)->Prop
 | .ok (ls,nx)=>∃ad cp db,e=.returned (.tuple #[.slice ad ls.length cp,.bool true])/\db.map Prod.fst=ls/\BI w' w.heap.size (.slice ad ls.length cp) db/\BU w' b mv ms nx br/\Ac [b] w w'
 | .error p=>∃nx,e=.returned (.tuple #[.slice none 0 0,.bool false])/\BU w' b mv ms nx p/\Ac [b] w w'
set_option maxRecDepth 100000
theorem Qh(b:Nat)(mv:Value)(ms:List AW)(nx:Nat)(br:Int)(w:World)(h:BU w b mv ms nx br)(ok:Tv ms):
  Calls prog 133 #[.pointer (some ⟨b,0,none⟩)] w λe w'=>ZE b mv ms br w e w' (D9 ms nx []):=by
 obtain⟨i0,hi0,hz0,hz1,hz2⟩:=cU Tryz.zT;obtain⟨R,hR⟩:∃R,D9 ms nx []=R:=⟨_,rfl⟩;rw[hR];have HRr:=Ab hR;have HO:=Ab ok;have hbw:=h.gA.lt;have hml:=h.len;have HMB:Hid (∀k,w.heap.size<=k->mv.ownBlock≠some k):=λk hk e=>by have:=(h.row.lt k e).2;omega
 have h0:=Ab h;clear hR ok h;go_enter func133,ntmps133;go_wp2_with fail
 go_loopg [4] (ms.length-nx) (λgk o wr=>∃(j:Nat) (acc:List JF) (ad:Option Addr) (cp:Nat),o=.slice ad acc.length cp/\gk=ms.length-j/\Hid (D9 ms j (acc.map Prod.fst)=R)/\Hid (BU wr b mv ms j br)/\Hid (BI wr w.heap.size (.slice ad acc.length cp) acc)/\Hid (Ac [b] w wr)/\acc.length<=j)
 case atStart=>exact⟨nx,[],none,0,rfl,rfl,HRr,h0,BI.nil _ _,Ac.refl _ _,by simp⟩
 case round=>
  clear h0 HRr;obtain⟨j,acc,ad,cp,rfl,hgk,HL,HR,HB,hK,hal⟩:=hrel;have HG:=Ab hgk;clear hgk;have hjl:=(Aa HR).lt;have hKs:=(Aa hK).size;go_wp2_with fail
  refine(Y0 b mv ms j br _ (Aa HR) (Aa HO)).mono ?_;intro e w6 hout;cases ht:GU ms j with
  |error q=>
   rw[ht]at hout;obtain⟨n9,l,⟨ad9,n8,cp9,htv⟩,rfl,h6,k6⟩:=hout;(have HF:Hid (R=.error q):=by show _=_;rw[<-Aa HL];exact GZ hjl ht);have hK6:=Ab ((Aa hK).trans k6);have HR6:=Ab h6;clear k6 ht HR HB hK HL h6;obtain⟨lp,ls,⟨la,lan,ltv⟩,ll,lr⟩:=l;simp only at htv;subst htv;simp only[Ar];go_wp2;go_ret2;rw[HF.out];exact⟨n9,rfl,(Aa HR6).eb ((Ac.refl [] _).alloc _),(Aa hK6).alloc _⟩
  |ok r=>
   obtain⟨t,n1⟩:=r;rw[ht]at hout;have hn1:=Hw ht;obtain⟨ad6,cp6,rfl,hp6,h6,k6⟩:=hout.uni ht;have HT:=Ab (LJ (acc:=acc.map Prod.fst) hjl ht);clear hout ht;generalize IZ t=p at hp6 HT⊢;clear t;have hk6s:=k6.size;have hrow6:=Ad (Aa HB).row k6 (by simp;omega);(have HB6:Hid (∀q∈acc,Jf w6 w.heap.size q/\BP q.2 (.slice ad acc.length cp)):=λq hq=>⟨((Aa HB).each q hq).1.kept k6 (by simp;omega),((Aa HB).each q hq).2⟩);have HAP:Hid (BP (.slice ad6 p.ts.length cp6) (.slice ad acc.length cp)):=λk hk he=>by
    have:=(hp6.lt k hk).1;have:=((Aa HB).row.lt k he).2;omega
   have HP6:=Ab hp6;have hK6:=Ab ((Aa hK).trans k6);have HR6:=Ab h6;have hn1l:=h6.lt;clear hp6 h6 k6 HB hK HR;have hnew:((w6.alloc (.cells (Aq (p,.slice ad6 p.ts.length cp6)).toArray 217)).alloc (.cells (Aq (p,.slice ad6 p.ts.length cp6)).toArray 217)).heap[w6.heap.size+1]?=some (.cells (Aq (p,.slice ad6 p.ts.length cp6)).toArray 217 (0,0)):=by
    have hh:=cA (w6.alloc (.cells (Aq (p,.slice ad6 p.ts.length cp6)).toArray 217)) (.cells (Aq (p,.slice ad6 p.ts.length cp6)).toArray 217);rw[show(w6.alloc (.cells (Aq (p,.slice ad6 p.ts.length cp6)).toArray 217)).heap.size=w6.heap.size+1 from by simp]at hh
    exact hh
   have hown8:=bQ (bQ hrow6 (.cells (Aq (p,.slice ad6 p.ts.length cp6)).toArray 217)) (.cells (Aq (p,.slice ad6 p.ts.length cp6)).toArray 217);(have hal2:acc.length<=1000:=by omega);simp only[Aq];go_wp2_with (at_builtin;refine cd _ rfl (.tmp 14) (.tmp 16) _ rfl w.heap.size 217 i0 _ 9 112 underlying97 hi0 hz0 hz1 hz2 rfl (by omega) (.slice ad acc.length cp) acc.length (acc.flatMap Aq) rfl hown8 ⟨w6.heap.size+1,0,none⟩ 1 1 (Aq (p,.slice ad6 p.ts.length cp6)) rfl rfl (cj (cs:=(Aq (p,.slice ad6 p.ts.length cp6)).toArray) (t:=217) (fr:=(0,0)) hnew) (by simp[Value.oneCell',Aq]) (by omega) (by unfold maxLen;omega) (by omega) (by simp;omega) (w6.heap.size+1+1) (by simp) ?_;intro g1 cp1 w9 ho1 hg1 ha1 hl1)
   have kr:Ac (Value.slice ad acc.length cp).ownBlock.toList w6 w9:=(((Ac.refl _ w6).alloc _).alloc _).grown hg1 (λk hk=>Or.inl (by simp[hk]));(have hrw:∀i∈(Value.slice ad acc.length cp).ownBlock.toList,w.heap.size<=i:=λi hi=>(hrow6.lt i (by simpa using hi)).1);have hmb6:mv.ownBlock≠none->∀k,mv.ownBlock=some k->k<w.heap.size:=λ_ k hk=>by
    by_cases hq:k<w.heap.size
    .exact hq
    .exact absurd hk (Aa HMB k (by omega))
   have hR9:BU w9 b mv ms n1 br:=⟨(Aa HR6).gA.kept kr (λhm=>by have:=hrw b hm;omega),Al (Aa HR6).row kr (λi hi hm=>by have:=hrw i hm;exact absurd hi (Aa HMB i this)),(Aa HR6).ap,(Aa HR6).lt,(Aa HR6).len⟩;have hK9:Ac [b] w w9:=(Aa hK6).trans' kr (λi hi=>Or.inr (by have:=hrw i hi;omega));have hs9:w.heap.size<=w9.heap.size:=hK9.size;have HIN:Hid (BI w9 w.heap.size (.slice (some ⟨g1,0,none⟩) (acc.length+1) cp1) (acc++[(p,.slice ad6 p.ts.length cp6)])):=by
    refine⟨by simpa using ho1,?_⟩;intro q hq;rcases bY.1 hq with hq|hq
    .obtain⟨h1,h2⟩:=Aa HB6 q hq;exact⟨h1.gI kr (λi hi hm=>h2 i hi (by simpa using hm)),BP.gO h2 h1 ha1 (by omega)⟩
    .simp only[bO]at hq;subst hq;have h1:Jf w6 w.heap.size (p,.slice ad6 p.ts.length cp6):=Ak (Aa HP6) (by omega);exact⟨h1.gI kr (λi hi hm=>Aa HAP i hi (by simpa using hm)),BP.gO (Aa HAP) h1 ha1 (by omega)⟩
   have HR9:=Ab hR9;have HK9:=Ab hK9;have hg1w:w.heap.size<=g1:=(ho1.lt g1 rfl).1;clear kr hrw hmb6 hR9 hK9 hg1 ha1 hl1 ho1 hnew hown8 hrow6 HB6 HAP HP6 hK6 HR6;refine(F6 b mv ms n1 br G7 _ (Aa HR9) (An ms n1) (A8 hn1l) ((Aa HO).seen hn1l G7)).mono ?_;rintro e w11 ⟨rfl,h11,k11⟩;have HB11:=Ab ((Aa HIN).kept k11 (by simp;omega));have hK11:=Ab ((Aa HK9).trans k11);clear k11 HIN HK9 HR9;cases hs:BF (An ms n1) G7 with
   |true=>
    rw[hs]at h11;simp only[if_true]at h11;have HL2:Hid (D9 ms (n1+1) ((acc++[(p,(.slice ad6 p.ts.length cp6:Value))]).map Prod.fst)=R):=by
     show _=_;rw[<-Aa HL,Aa HT,hs];simp
    have HR11:=Ab h11;clear h11 hs HL HT;go_wp2_with fail
    go_roundg (ms.length-(n1+1))
    case measure=>have:=Aa HG;omega
    case rel=>exact⟨n1+1,acc++[(p,.slice ad6 p.ts.length cp6)],some ⟨g1,0,none⟩,cp1,by simp,rfl,HL2,HR11,by simpa using HB11,hK11,by simp;omega⟩
   |false=>
    rw[hs]at h11;simp only[bN,if_false]at h11;have HF:Hid (R=.ok (acc.map Prod.fst++[p],n1)):=by
     show _=_;rw[<-Aa HL,Aa HT,hs];simp
    have HR11:=Ab h11;clear h11 hs HL HT;go_wp2;go_ret2;rw[HF.out];exact⟨some ⟨g1,0,none⟩,cp1,acc++[(p,.slice ad6 p.ts.length cp6)],by simp,by simp,by simpa using(Aa HB11),Aa HR11,Aa hK11⟩
def We:cR:=⟨#[58]⟩
def Z9:cR:=⟨#[58,45]⟩
def VU:cR:=⟨#[46]⟩
structure PC where
 hp:Int
 hn:cR
 eB:List A3
 body:List PL
def L2(ms:List AW)(n:Nat)(c:PC):Except Int (PC×Nat):=if BF (An ms n) VU then .ok (c,n+1)else .error (An ms n).place
def B5(ms:List AW)(nx:Nat):Except Int (PC×Nat):=
 match Et ms nx with
 | .error p=> .error p
 | .ok ((p,s,ts),n)=>
  if BF (An ms n) We then .error (((An ms n).place:Int)+1)
  else if BF (An ms n) Z9 then
   match D9 ms (n+1) [] with
   | .error q=> .error q
   | .ok (ls,n2)=>L2 ms n2 ⟨p,s,ts,ls⟩
  else L2 ms n ⟨p,s,ts,[]⟩
theorem Oe{ms:List AW}:∀(k a:Nat) (c:List PL) {d:List PL} {n:Nat},ms.length-a<=k->D9 ms a c=.ok (d,n)->a<n
 |k,a,c,d,n,hk,h=>by
  by_cases b:a<ms.length
  .cases hl:GU ms a with
   |error p=>rw[GZ b hl]at h;cases h
   |ok r=>
    obtain⟨l,e⟩:=r;have f:=Hw hl;rw[LJ b hl]at h;split at h
    .match k with
     |0=>omega
     |k+1=>have:=Oe k (e+1) _ (by omega) h;omega
    .simp only[de,cP]at h;omega
  .unfold D9 at h;rw[dif_neg b]at h;cases h
theorem Qk{ms:List AW}{n m:Nat}{c a:PC}(h:L2 ms n c=.ok (a,m)):m=n+1:=by
 unfold L2 at h;split at h
 .simp only[de,cP]at h;exact h.2.symm
 .cases h
theorem Gj{ms:List AW}{a n:Nat}{c:PC}(h:B5 ms a=.ok (c,n)):a<n:=by
 unfold B5 at h;split at h
 .cases h
 .rename_i d;have f:=Kt d;split at h
  .cases h
  .split at h
   .split at h
    .cases h
    .rename_i b;have g:=Oe _ _ _ (bZ _) b;have e:=Qk h;omega
   .have e:=Qk h;omega
def Du(ms:List AW)(nx:Nat)(acc:List PC):Except Int (List PC):=
 if _h:nx<ms.length then
  if(An ms nx).kind==1 then .ok acc
  else match B5 ms nx with
   | .error p=> .error p
   | .ok (c,n)=>if _h2:nx<n then Du ms n (acc++[c])else .error 0
 else .error 0
theorem Mf{ms:List AW}{a:Nat}{acc:List PC}(h:a<ms.length)(b:((An ms a).kind==1)=true):Du ms a acc=.ok acc:=by
 unfold Du;simp[h,b]
theorem Jn{ms:List AW}{a:Nat}{acc:List PC}{p:Int}(h:a<ms.length)(b:((An ms a).kind==1)=false)(c:B5 ms a=.error p):Du ms a acc=.error p:=by
 unfold Du;simp[h,b,c]
theorem Pe{ms:List AW}{a:Nat}{acc:List PC}{c:PC}{n:Nat}(h:a<ms.length)(d:((An ms a).kind==1)=false)(b:B5 ms a=.ok (c,n)):Du ms a acc=Du ms n (acc++[c]):=by
 have e:=Gj b
 conv=>lhs;unfold Du
 simp[h,d,b,e]
def A2(hp:Int)(hn:cR)(hv bv:Value):List Value:=[.int .i64 hp,.string hn,hv,bv]
theorem AE.gB{w:World}{N:Nat}{cs:List Value}{t:TypeId}(h:AE w N cs t)(f:cs.length=4)(c v1 b a:Value):AE ((((w.setCell ⟨N,0,none⟩ c).setCell ⟨N,1,none⟩ v1).setCell ⟨N,2,none⟩ b).setCell ⟨N,3,none⟩ a) N [c,v1,b,a] t:=by
 have d:=(((h.set 0 c).set 1 v1).set 2 b).set 3 a;have e:(((cs.set 0 c).set 1 v1).set 2 b).set 3 a=[c,v1,b,a]:=by
  match cs,f with
  |[_,_,_,_],_=>rfl
 rw[e]at d;exact d
theorem BU.gB{w:World}{b:Nat}{d:Value}{ms:List AW}{j:Nat}{e:Int}(h:BU w b d ms j e){N:Nat}(a:N≠b)(c:d.ownBlock≠some N)(i v1 g f:Value):BU ((((w.setCell ⟨N,0,none⟩ i).setCell ⟨N,1,none⟩ v1).setCell ⟨N,2,none⟩ g).setCell ⟨N,3,none⟩ f) b d ms j e:=
 (((h.other (p:=⟨N,0,none⟩) a c i).other (p:=⟨N,1,none⟩) a c v1).other (p:=⟨N,2,none⟩) a c g).other (p:=⟨N,3,none⟩) a c f
theorem Ac.gB{M:List Nat}{a w:World}(h:Ac M a w){N:Nat}(b:N∈M\/a.heap.size<=N)(d v1 c e:Value):Ac M a ((((w.setCell ⟨N,0,none⟩ d).setCell ⟨N,1,none⟩ v1).setCell ⟨N,2,none⟩ c).setCell ⟨N,3,none⟩ e):=
 (((h.setCell (p:=⟨N,0,none⟩) b d).setCell (p:=⟨N,1,none⟩) b v1).setCell (p:=⟨N,2,none⟩) b c).setCell (p:=⟨N,3,none⟩) b e
structure IP(w:World)(base:Nat)(hv bv:Value)(eB:List A3)(ls:List JF):Prop where
 head:w.ownsRow base 215 2 hv eB.length (eB.flatMap Ao)
 body:BI w base bv ls
theorem IP.kept{M:List Nat}{w w':World}{base:Nat}{a c:Value}{d:List A3}{ls:List JF}(h:IP w base a c d ls)(k:Ac M w w')(b:∀i,i∈M->i<base):IP w' base a c d ls:=⟨Ad h.head k b,h.body.kept k b⟩
theorem IP.base{w:World}{base base':Nat}{a c:Value}{b:List A3}{ls:List JF}(h:IP w base a c b ls)(d:base'<=base):IP w base' a c b ls:=⟨Ak h.head d,h.body.base d⟩
def Wk(b:Nat)(mv:Value)(ms:List AW)(br:Int)(w:World)(e:Ending)(w':World):Except Int (PC×Nat)->Prop
 | .ok (c,nx)=>∃ad cp ad2 cp2 db,e=.returned (.tuple #[.agg (A2 c.hp c.hn (.slice ad c.eB.length cp) (.slice ad2 c.body.length cp2)).toArray,.bool true])/\db.map Prod.fst=c.body/\IP w' (w.heap.size+1) (.slice ad c.eB.length cp) (.slice ad2 c.body.length cp2) c.eB db/\BU w' b mv ms nx br/\Ac [b] w w'
 | .error p=>∃nx hp hn ad n cp ad2 n2 cp2,e=.returned (.tuple #[.agg (A2 hp hn (.slice ad n cp) (.slice ad2 n2 cp2)).toArray,.bool false])/\BU w' b mv ms nx p/\Ac [b] w w'
theorem Sr(b:Nat)(E:Value)(ms:List AW)(G:Nat)(I:Int)(w:World)(h:BU w b E ms G I)(ok:Tv ms)(H1:∀i,(An ms i).place<=1000000):
  Calls prog 115 #[.pointer (some ⟨b,0,none⟩)] w λe H=>Wk b E ms I w e H (B5 ms G):=by
 have HO:=Ab ok;have NS:=Ab H1;clear H1;have NX:=h.gA.lt;have KK:∀k,E.ownBlock=some k->k<w.heap.size:=λk hk=>(h.row.lt k hk).2
 have h1:=Ab (h.eb ((Ac.refl [] w).alloc (.cells (A2 0 ⟨#[]⟩ (.slice none 0 0) (.slice none 0 0)).toArray 189)));have hN:=Ab (AE.new w (A2 0 ⟨#[]⟩ (.slice none 0 0) (.slice none 0 0)) 189);have CC:=Ab ((Ac.refl [b] w).alloc (.cells (A2 0 ⟨#[]⟩ (.slice none 0 0) (.slice none 0 0)).toArray 189));have H6:(w.alloc (.cells (A2 0 ⟨#[]⟩ (.slice none 0 0) (.slice none 0 0)).toArray 189)).heap.size=w.heap.size+1:=by simp
 clear h ok;go_enter func115,ntmps115;go_wp2_with fail
 change Calls _ _ _ (w.alloc (.cells (A2 0 ⟨#[]⟩ (.slice none 0 0) (.slice none 0 0)).toArray 189)) _;generalize w.alloc (.cells (A2 0 ⟨#[]⟩ (.slice none 0 0) (.slice none 0 0)).toArray 189)=w1 at h1 hN CC H6⊢;obtain⟨N,IA⟩:∃N,w.heap.size=N:=⟨_,rfl⟩;rw[IA]at hN NX H6 KK⊢;have L:Hid (∀k,N<=k->E.ownBlock≠some k):=λk hk e=>by have:=KK k e;omega
 clear KK;have K:=Ab IA;clear IA;refine(Mp b E ms G I _ (Aa h1) (Aa HO)).mono ?_;intro e B M;clear h1;cases ht:Et ms G with
 |error q=>
  rw[ht]at M;obtain⟨n9,ap,an,c,M2,d,rfl,h2,T⟩:=M;have HF:Hid (B5 ms G=.error q):=by show _=_;unfold B5;rw[ht]
  clear ht;have t:=(Aa hN).kept T (by simp;omega);have HG:=Ab ((Aa CC).trans T);have c0:=t.cell 0;have c1:=t.cell 1;have c2:=t.cell 2;have c3:=t.cell 3;have nf:=t.frozen;have d0:=λo=>(t.alloc o).cell 0
  have d1:=λo=>(t.alloc o).cell 1
  have d2:=λo=>(t.alloc o).cell 2
  have d3:=λo=>(t.alloc o).cell 3
  have df:=λo=>(t.alloc o).frozen
  simp[A2]at c0 c1 c2 c3 d0 d1 d2 d3;have PT:=t.lt;have q1:¬N=B.heap.size:=by omega
  have q2:¬B.heap.size=N:=by omega
  have y:=Ab h2;have F:=Ab t;clear h2 t T hN CC;simp only[AF];go_wp2;rw[HF.out];have S:=((Aa F).gB rfl (.int .i64 0) (.string ⟨#[]⟩) (.slice none 0 0) (.slice none 0 0)).alloc (.cells #[.int .i64 ap,.string an,.slice c M2 d] 187);refine cB (AC (P:=prog) (fn:=Tryz.f115) (p:=2) (u:=3) rfl rfl S underlying189 rfl (by kernel_rfl)) rfl ?_;refine⟨n9,0,ByteArray.empty,none,0,0,none,0,0,rfl,?_,?_⟩
  .exact((Aa y).gB (by omega) (Aa L N (by omega)) _ _ _ _).eb ((Ac.refl [] _).alloc _)
  .have:=Aa K;exact((Aa HG).gB (by right;omega) _ _ _ _).alloc _
 |ok r=>
  obtain⟨⟨p,s,a⟩,n⟩:=r;rw[ht]at M;obtain⟨tv,Pl,rfl,NL,H9,h2,T⟩:=M;obtain⟨c,d,rfl⟩:=Aj H9;have Ax:Hid (B5 ms G=if BF (An ms n) We then .error (((An ms n).place:Int)+1)else if BF (An ms n) Z9 then(match D9 ms (n+1) [] with| .error q=> .error q| .ok (g,Q)=>L2 ms Q ⟨p,s,a,g⟩)else L2 ms n ⟨p,s,a,[]⟩):=by
   show _=_;unfold B5;rw[ht]
  clear ht;have HS:B.ownsRow (N+1) 215 2 (.slice c a.length d) a.length (a.flatMap Ao):=Ak H9 (by omega);have LS:Hid (∀k,(Value.slice c a.length d).ownBlock=some k->k<B.heap.size):=λk e=>(HS.lt k e).2
  have t:=(Aa hN).kept T (by simp;omega);have HG:=(Aa CC).trans T;have N0:=t.lt;have M6:N+1<=B.heap.size:=by have:=T.size;omega
  clear H9 NL T hN CC H6;have BT:=Ab (h2.eb (((Ac.refl [] B).alloc (.cells (AF ⟨p,s,.slice c a.length d⟩).toArray 187)).alloc (.cells (A2 p s (.slice c a.length d) (.slice none 0 0)).toArray 189)));have HW:=Ab ((t.alloc (.cells (AF ⟨p,s,.slice c a.length d⟩).toArray 187)).alloc (.cells (A2 p s (.slice c a.length d) (.slice none 0 0)).toArray 189));have H0:=Ab ((HG.alloc (.cells (AF ⟨p,s,.slice c a.length d⟩).toArray 187)).alloc (.cells (A2 p s (.slice c a.length d) (.slice none 0 0)).toArray 189));have HE:Hid (AE ((B.alloc (.cells (AF ⟨p,s,.slice c a.length d⟩).toArray 187)).alloc (.cells (A2 p s (.slice c a.length d) (.slice none 0 0)).toArray 189)) (B.heap.size+1) (A2 p s (.slice c a.length d) (.slice none 0 0)) 189):=by
   have hh:=AE.new (B.alloc (.cells (AF ⟨p,s,.slice c a.length d⟩).toArray 187)) (A2 p s (.slice c a.length d) (.slice none 0 0)) 189;rw[show(B.alloc (.cells (AF ⟨p,s,.slice c a.length d⟩).toArray 187)).heap.size=B.heap.size+1 from by simp]at hh
   exact hh
  have H3:=Ab (bQ (bQ HS (.cells (AF ⟨p,s,.slice c a.length d⟩).toArray 187)) (.cells (A2 p s (.slice c a.length d) (.slice none 0 0)).toArray 189));clear h2 t HG HS;simp only[AF];go_wp2_with fail
  change Calls _ _ _ ((B.alloc (.cells (AF ⟨p,s,.slice c a.length d⟩).toArray 187)).alloc (.cells (A2 p s (.slice c a.length d) (.slice none 0 0)).toArray 189)) _;generalize(B.alloc (.cells (AF ⟨p,s,.slice c a.length d⟩).toArray 187)).alloc (.cells (A2 p s (.slice c a.length d) (.slice none 0 0)).toArray 189)=w3 at BT HW H0 HE H3⊢;obtain⟨C,K7⟩:∃C,B.heap.size+1=C:=⟨_,rfl⟩;have P0:N+1<C:=by omega
  have Nq:Hid ((Value.slice c a.length d).ownBlock≠some C):=λe=>by have:=Aa LS C e;omega
  clear LS;rw[K7]at HE⊢;clear K7 M6 N0;refine(QG b E ms n I We _ (Aa BT) (An ms n) (A8 (Aa BT).lt)).mono ?_;rintro e w4 ⟨rfl,k4⟩;have X:=Ab ((Aa BT).eb k4);have Go:=Ab ((Aa HW).kept k4 (by simp));have K4:=Ab ((Aa HE).kept k4 (by simp));have FO:=Ab ((Aa H0).trans (k4.mono (by simp)));have HZ:=Ab (Ad (Aa H3) k4 (by simp));clear BT HW HE H0 H3 k4;cases hc:BF (An ms n) We with
  |true=>
   (have HF:Hid (B5 ms G=.error (((An ms n).place:Int)+1)):=by show _=_;rw[Aa Ax,hc];rfl);clear Ax hc K4 HZ;(go_wp2_with fail);refine(Hz b E ms n I _ (Aa X) (An ms n) (A8 (Aa X).lt)).mono ?_;rintro e w5 ⟨rfl,J⟩;have Mo:=Ab ((Aa X).eb J);have R:=Ab ((Aa Go).kept J (by simp));have O:=Ab ((Aa FO).trans (J.mono (by simp)));have H1:(An ms n).place<=1000000:=Aa NS n;clear X Go FO J;(go_wp2_with fail);refine(EF b E ms n I (((An ms n).place:Int)+1) _ (Aa Mo)).mono ?_;rintro e U ⟨rfl,Y,A⟩;have m:=(Aa R).kept A (by simp;omega);have AH:=Ab ((Aa O).trans A);have c0:=m.cell 0;have c1:=m.cell 1;have c2:=m.cell 2;have c3:=m.cell 3;have nf:=m.frozen;simp[A2]at c0 c1 c2 c3;have F:=Ab m;have y:=Ab Y;clear m Y A Mo R O;go_wp2;rw[HF.out];have S:=(Aa F).gB rfl (.int .i64 0) (.string ⟨#[]⟩) (.slice none 0 0) (.slice none 0 0);refine cB (AC (P:=prog) (fn:=Tryz.f115) (p:=2) (u:=3) rfl rfl S underlying189 rfl (by kernel_rfl)) rfl ?_;refine⟨n,0,ByteArray.empty,none,0,0,none,0,0,rfl,?_,?_⟩
   .exact(Aa y).gB (by omega) (Aa L N (by omega)) _ _ _ _
   .have:=Aa K;exact(Aa AH).gB (by right;omega) _ _ _ _
  |false=>
   have FP:=Ab hc;clear hc;(go_wp2_with fail);refine(F6 b E ms n I Z9 _ (Aa X) (An ms n) (A8 (Aa X).lt) ((Aa HO).seen (Aa X).lt Z9)).mono ?_;rintro e w5 ⟨rfl,V,J⟩;have R:=Ab ((Aa Go).kept J (by simp;omega));have Z:=Ab ((Aa K4).kept J (by simp;omega));have O:=Ab ((Aa FO).trans J);have BA:=Ab (Ad (Aa HZ) J (by simp;omega));clear X Go K4 FO HZ J;cases hd:BF (An ms n) Z9 with
   |false=>
    rw[hd]at V;simp only[bN,if_false]at V;(have HD:Hid (B5 ms G=L2 ms n ⟨p,s,a,[]⟩):=by show _=_;rw[Aa Ax,Aa FP,hd];rfl);have y:=Ab V;have F:=R;have z:=Z;have HK:=O;have HP:Hid (IP w5 (N+1) (.slice c a.length d) (.slice none 0 0) a []):=⟨Aa BA,BI.nil _ _⟩;clear hd V Ax FP R Z O BA;have CL:=(Aa y).lt;have Ix:=Ab (LN b E ms n I VU _ ((Aa y).eb (Ac.refl [] w5).drew) (An ms n) (A8 CL) ((Aa HO).seen CL VU));have e0:=(Aa z).cell 0;have e1:=(Aa z).cell 1;have e2:=(Aa z).cell 2;have e3:=(Aa z).cell 3;simp[A2]at e0 e1 e2 e3;(have HQ:Hid (∀l,Ac [b] w5.drew l->AE l N (A2 0 ⟨#[]⟩ (.slice none 0 0) (.slice none 0 0)) 189/\AE l C (A2 p s (.slice c a.length d) (.slice none 0 0)) 189):=λl k=>⟨(Aa F).drew.kept k (by simp;omega),(Aa z).drew.kept k (by simp;omega)⟩);(have q1:¬C=N:=by omega);(have q2:¬N=C:=by omega);clear y F z;go_wp2_with fail
    go_region_held3 (λH=>H.cell? ⟨C,0,none⟩=some (.int .i64 p)/\H.cell? ⟨C,1,none⟩=some (.string s)/\H.cell? ⟨C,2,none⟩=some (.slice c a.length d)/\H.cell? ⟨C,3,none⟩=some (.slice none 0 0)) (go_keep) ((go_at_call 163;refine(Aa Ix).mono ?_;rintro e l ⟨rfl,j,D⟩;have f:=Aa HQ l D;have f0:=f.2.cell 0;have f1:=f.2.cell 1;have f2:=f.2.cell 2;have f3:=f.2.cell 3;have p0:=f.1.cell 0;have p1:=f.1.cell 1;have p2:=f.1.cell 2;have p3:=f.1.cell 3;have pf:=f.1.frozen;simp[A2]at f0 f1 f2 f3 p0 p1 p2 p3;have HX:=Ab (And.intro j (And.intro D f));clear j D f))
    rename_i HT;clear HT;go_wp2;obtain⟨j,D,f,_⟩:=Aa HX;have S:=f.gB rfl (.int .i64 p) (.string s) (.slice c a.length d) (.slice none 0 0);have FF:Ac [b] w l:=(Aa HK).drew.trans D;have K5:IP l (N+1) (.slice c a.length d) (.slice none 0 0) a []:=((Aa HP).kept (Ac.refl [] w5).drew (by simp)).kept D (by simp;omega);refine cB (AC (P:=prog) (fn:=Tryz.f115) (p:=2) (u:=3) rfl rfl S underlying189 rfl (by kernel_rfl)) rfl ?_;rw[Aa HD];cases hcl:BF (An ms n) VU with
    |true=>
     rw[hcl]at j;simp only[if_true]at j;unfold L2;rw[hcl];simp only[if_true];refine⟨c,d,none,0,[],rfl,rfl,?_,?_,?_⟩
     .rw[Aa K];exact K5.kept ((Ac.refl [N] l).gB (by simp) _ _ _ _) (by simp)
     .exact j.gB (by omega) (Aa L N (by omega)) _ _ _ _
     .have:=Aa K;exact FF.gB (by right;omega) _ _ _ _
    |false=>
     rw[hcl]at j;simp only[bN,if_false]at j;unfold L2;rw[hcl];simp only[bN,if_false];refine⟨n,p,s,c,a.length,d,none,_,0,rfl,?_,?_⟩
     .exact j.gB (by omega) (Aa L N (by omega)) _ _ _ _
     .have:=Aa K;exact FF.gB (by right;omega) _ _ _ _
   |true=>
    rw[hd]at V;simp only[if_true]at V;have HA:Hid (B5 ms G=(match D9 ms (n+1) [] with| .error q=> .error q| .ok (g,Q)=>L2 ms Q ⟨p,s,a,g⟩)):=by show _=_;rw[Aa Ax,Aa FP,hd];rfl
    have MY:=Ab V;clear hd V Ax FP;have Nx:=(Aa Z).lt;(go_wp2_with fail);refine(Qh b E ms (n+1) I _ (Aa MY) (Aa HO)).mono ?_;intro e U M;clear MY;cases hb:D9 ms (n+1) [] with
    |error q=>
     rw[hb]at M;obtain⟨n9,rfl,Y,A⟩:=M;(have HF:Hid (B5 ms G=.error q):=by show _=_;rw[Aa HA,hb]);have m:=(Aa R).kept A (by simp;omega);have W:=(Aa Z).kept A (by simp;omega);have AH:=Ab ((Aa O).trans A);have c0:=m.cell 0;have c1:=m.cell 1;have c2:=m.cell 2;have c3:=m.cell 3;have nf:=m.frozen;have d3:=W.cell 3;have df:=W.frozen;simp[A2]at c0 c1 c2 c3 d3;(have q1:¬C=N:=by omega);(have q2:¬N=C:=by omega);have F:=Ab m;have y:=Ab Y;clear m W Y A hb HA R Z O BA;go_wp2;rw[HF.out];have S:=((Aa F).dT ⟨C,3,none⟩ (by simp;omega) (.slice none 0 0)).gB rfl (.int .i64 0) (.string ⟨#[]⟩) (.slice none 0 0) (.slice none 0 0);refine cB (AC (P:=prog) (fn:=Tryz.f115) (p:=2) (u:=3) rfl rfl S underlying189 rfl (by kernel_rfl)) rfl ?_;refine⟨n9,0,ByteArray.empty,none,0,0,none,0,0,rfl,?_,?_⟩
     .exact((Aa y).other (p:=⟨C,3,none⟩) (by simp;omega) (Aa L C (by omega)) _).gB (by omega) (Aa L N (by omega)) _ _ _ _
     .have:=Aa K;exact((Aa AH).setCell (p:=⟨C,3,none⟩) (by right;simp;omega) _).gB (by right;omega) _ _ _ _
    |ok r=>
     obtain⟨g,Q⟩:=r;rw[hb]at M;obtain⟨x,v,FW,rfl,LM,K8,Y,A⟩:=M;(have HD:Hid (B5 ms G=L2 ms Q ⟨p,s,a,g⟩):=by show _=_;rw[Aa HA,hb]);have m:=(Aa R).kept A (by simp;omega);have W:=(Aa Z).kept A (by simp;omega);have AH:=(Aa O).trans A;have MN:=Ad (Aa BA) A (by simp;omega);have d3:=W.cell 3;have df:=W.frozen;simp[A2]at d3;have L0:=Ab m;have K6:=Ab W;have MB:=Ab AH;have LL:=Ab MN;have KS:=Ab (And.intro LM K8);have LC:=Ab Y;clear m W AH MN LM K8 Y A hb HA R Z O BA;(go_wp2_with fail);have Os:C<w5.heap.size:=Nx;have y:=Ab ((Aa LC).other (p:=⟨C,3,none⟩) (by simp;omega) (Aa L C (by omega)) (.slice x g.length v));have F:=Ab ((Aa L0).dT ⟨C,3,none⟩ (by simp;omega) (.slice x g.length v));have z:Hid (AE (U.setCell ⟨C,3,none⟩ (.slice x g.length v)) C (A2 p s (.slice c a.length d) (.slice x g.length v)) 189):=(Aa K6).set 3 _;have HK:Hid (Ac [b] w (U.setCell ⟨C,3,none⟩ (.slice x g.length v))):=by
      have:=Aa K;exact(Aa MB).setCell (p:=⟨C,3,none⟩) (by right;simp;omega) _
     have HP:Hid (IP (U.setCell ⟨C,3,none⟩ (.slice x g.length v)) (N+1) (.slice c a.length d) (.slice x g.length v) a FW):=by
      have kC:Ac [C] U (U.setCell ⟨C,3,none⟩ (.slice x g.length v)):=(Ac.refl [C] U).setCell (by simp) _;refine⟨?_,((Aa KS).2.kept kC (by simp;omega)).base (by omega)⟩;exact Ag (Aa LL) (p:=⟨C,3,none⟩) (Aa Nq) _
     have HM:Hid (FW.map Prod.fst=g):=(Aa KS).1;clear LC L0 K6 MB LL KS d3 df;generalize U.setCell ⟨C,3,none⟩ (.slice x g.length v)=w7 at y F z HK HP⊢;have CL:=(Aa y).lt;have Ix:=Ab (LN b E ms Q I VU _ ((Aa y).eb (Ac.refl [] w7).drew) (An ms Q) (A8 CL) ((Aa HO).seen CL VU));have e0:=(Aa z).cell 0;have e1:=(Aa z).cell 1;have e2:=(Aa z).cell 2;have e3:=(Aa z).cell 3;simp[A2]at e0 e1 e2 e3;(have HQ:Hid (∀l,Ac [b] w7.drew l->AE l N (A2 0 ⟨#[]⟩ (.slice none 0 0) (.slice none 0 0)) 189/\AE l C (A2 p s (.slice c a.length d) (.slice x g.length v)) 189):=λl k=>⟨(Aa F).drew.kept k (by simp;omega),(Aa z).drew.kept k (by simp;omega)⟩);(have q1:¬C=N:=by omega);(have q2:¬N=C:=by omega);clear y F z;go_wp2_with fail
     go_region_held3 (λH=>H.cell? ⟨C,0,none⟩=some (.int .i64 p)/\H.cell? ⟨C,1,none⟩=some (.string s)/\H.cell? ⟨C,2,none⟩=some (.slice c a.length d)/\H.cell? ⟨C,3,none⟩=some (.slice x g.length v)) (go_keep) ((go_at_call 163;refine(Aa Ix).mono ?_;rintro e l ⟨rfl,j,D⟩;have f:=Aa HQ l D;have f0:=f.2.cell 0;have f1:=f.2.cell 1;have f2:=f.2.cell 2;have f3:=f.2.cell 3;have p0:=f.1.cell 0;have p1:=f.1.cell 1;have p2:=f.1.cell 2;have p3:=f.1.cell 3;have pf:=f.1.frozen;simp[A2]at f0 f1 f2 f3 p0 p1 p2 p3;have HX:=Ab (And.intro j (And.intro D f));clear j D f))
     rename_i HT;clear HT;go_wp2;obtain⟨j,D,f,_⟩:=Aa HX;have S:=f.gB rfl (.int .i64 p) (.string s) (.slice c a.length d) (.slice x g.length v);have FF:Ac [b] w l:=(Aa HK).drew.trans D;have K5:IP l (N+1) (.slice c a.length d) (.slice x g.length v) a FW:=((Aa HP).kept (Ac.refl [] w7).drew (by simp)).kept D (by simp;omega);refine cB (AC (P:=prog) (fn:=Tryz.f115) (p:=2) (u:=3) rfl rfl S underlying189 rfl (by kernel_rfl)) rfl ?_;rw[Aa HD];cases hcl:BF (An ms Q) VU with
     |true=>
      rw[hcl]at j;simp only[if_true]at j;unfold L2;rw[hcl];simp only[if_true];refine⟨c,d,x,v,FW,rfl,Aa HM,?_,?_,?_⟩
      .rw[Aa K];exact K5.kept ((Ac.refl [N] l).gB (by simp) _ _ _ _) (by simp)
      .exact j.gB (by omega) (Aa L N (by omega)) _ _ _ _
      .have:=Aa K;exact FF.gB (by right;omega) _ _ _ _
     |false=>
      rw[hcl]at j;simp only[bN,if_false]at j;unfold L2;rw[hcl];simp only[bN,if_false];refine⟨Q,p,s,c,a.length,d,x,_,v,rfl,?_,?_⟩
      .exact j.gB (by omega) (Aa L N (by omega)) _ _ _ _
      .have:=Aa K;exact FF.gB (by right;omega) _ _ _ _
