import Derived.Test.YtoihbhenbmffcaaGreatDoorZAE
import Derived.Test.YtoihbhenbmffcaaGreatDoorZAC
set_option linter.unusedVariables false
set_option linter.unusedSimpArgs false
set_option maxHeartbeats 6400000
namespace Go.Proofs.YtoihbhenbmffcaaGreatDoor
open Go.RowKit
open Go.Proofs.Tryz
theorem Tryz.info217:(Tryz.prog.info? 217).map (λi=>(i.zero,i.size,i.bytes))=some (some (.agg #[.int .i64 0, .int .i64 0, .int .i64 0, .string ⟨#[]⟩, .slice none 0 0, .int .i32 0, .string ⟨#[]⟩, .int .i32 0, .string ⟨#[]⟩]),9,112):=by kernel_rfl
structure PL where
 place:Int
 sort:Int
 ap:Int
 an:cL
 ts:List A3
 l:A3
 r:A3
def Iv:W9->PL
 | .inl (pl,so,p,s,ts)=>⟨pl,so,p,s,ts,AC,AC⟩
 | .inr c=>⟨c.place,c.sort,0,ByteArray.empty,[],c.left,c.right⟩
abbrev MH:=PL×Value
def Ap(p:MH):List Value:=[.int .i64 p.1.place, .int .i64 p.1.sort, .int .i64 p.1.ap, .string p.1.an,p.2, .int .i32 p.1.l.v, .string p.1.l.s, .int .i32 p.1.r.v, .string p.1.r.s]
def IM(w:World)(base:Nat)(p:MH):Prop:=w.ownsRow base 215 2 p.2 p.1.ts.length (p.1.ts.flatMap Am)
theorem IM.keptOf{M:List Nat}{w w':World}{base:Nat}{p:MH}(h:IM w base p)(k:Ac M w w')(a:∀i,p.2.ownBlock=some i->i∉M):IM w' base p:=Ar h k a
theorem IM.kept{M:List Nat}{w w':World}{base:Nat}{p:MH}(h:IM w base p)(k:Ac M w w')(a:∀i,i∈M->i<base):IM w' base p:=Ad h k a
theorem Um.uni{b:Nat}{q:Value}{g:List AV}{m:Int}{w w':World}{e:Ending}{t n:Nat}{l:W9}(d:GC g t= .ok (l,n))(h:Um b q g m w e w' (.ok (l,n))):
  ∃i f,e= .returned (.tuple #[.agg (Ap (Iv l, .slice i (Iv l).ts.length f)).toArray, .bool true])/\IM w' w.heap.size (Iv l, .slice i (Iv l).ts.length f)/\BY w' b q g n m/\Ac [b] w w':=by
 cases l with
 |inl a=>
  obtain⟨E,y,p,s,G⟩:=a;obtain⟨A,z,rfl,u,o,k,j⟩:=h;obtain⟨i,f,rfl⟩:=Ak o;exact⟨i,f,rfl,Ai o u,k,j⟩
 |inr c=>
  have x:GA g t= .ok (c,n):=by
   unfold GC at d;split at d
   ·split at d<;>simp at d
   ·split at d
    ·split at d<;>simp at d
    ·split at d
     ·simp at d
     ·rename_i v;simp only[bz,aY,Sum.inr.injEq]at d;rw[v];simp[d]
  have r:=PI x;obtain⟨f,B,C,F,D⟩:=c;simp only at r;subst r;obtain⟨rfl,k,j⟩:=h;exact⟨none,0,rfl,ax _ _ _ _,k,j⟩
theorem NW{b:List AV}:∀(k a:Nat) (d:List A3) {c:List A3} {n:Nat},b.length-a<=k->Fw b a d= .ok (c,n)->a<n
 |k,a,d,c,n,hk,h=>by
  unfold Fw at h;split at h
  ·rename_i e;split at h
   ·cases h
   ·split at h
    ·match k with
     |0=>omega
     |k+1=>have:=NW k (a+2) _ (by omega) h;omega
    ·split at h
     ·simp only[bz,aY]at h;omega
     ·cases h
  ·cases h
theorem JV{c:List AV}{b:Nat}{a:Nat×cL×List A3}{n:Nat}(h:Em c b= .ok (a,n)):b<n:=by
 unfold Em at h;split at h
 ·split at h
  ·split at h
   ·cases h
   ·rename_i d;simp only[bz,aY]at h;have:=NW _ _ _ (au _) d;omega
  ·cases h
 ·cases h
theorem V8{b:List AV}{a:Nat}{l:W4}{n:Nat}(h:GA b a= .ok (l,n)):a<n:=by
 unfold GA at h;split at h
 ·cases h
 ·rename_i d;have e:=E2 d;split at h
  ·cases h
  ·split at h
   ·cases h
   ·rename_i c;have f:=E2 c;simp only[bz,aY]at h;omega
theorem G9{c:List AV}{b:Nat}{l:W9}{n:Nat}(h:GC c b= .ok (l,n)):b<n:=by
 unfold GC at h;split at h
 ·split at h
  ·cases h
  ·rename_i a;have:=JV a;simp only[bz,aY]at h;omega
 ·split at h
  ·split at h
   ·cases h
   ·rename_i a;have:=JV a;simp only[bz,aY]at h;omega
  ·split at h
   ·cases h
   ·rename_i a;have:=V8 a;simp only[bz,aY]at h;omega
def ER(ms:List AV)(nx:Nat)(acc:List PL):Except Int (List PL×Nat):=
 if _h:nx<ms.length then
  match GC ms nx with
  | .error p=> .error p
  | .ok (l,n)=>
   if _h2:nx<n then
    if Bz (Ao ms n) GQ then ER ms (n+1) (acc++[Iv l])else .ok (acc++[Iv l],n)
   else .error 0
 else .error 0
theorem GI{a:List AV}{b:Nat}{acc:List PL}{p:Int}(h:b<a.length)(c:GC a b= .error p):ER a b acc= .error p:=by
 unfold ER;simp[h,c]
theorem KT{a:List AV}{b:Nat}{acc:List PL}{l:W9}{n:Nat}(h:b<a.length)(c:GC a b= .ok (l,n)):
  ER a b acc=if Bz (Ao a n) GQ then ER a (n+1) (acc++[Iv l])else .ok (acc++[Iv l],n):=by
 have d:=G9 c
 conv=>lhs;unfold ER
 simp[h,c,d]
structure Cd(w:World)(base:Nat)(v:Value)(ls:List MH):Prop where
 row:w.ownsRow base 217 9 v ls.length (ls.flatMap Ap)
 each:∀p∈ls,IM w base p/\BX p.2 v
theorem Cd.kept{M:List Nat}{w w':World}{base:Nat}{v:Value}{ls:List MH}(h:Cd w base v ls)(k:Ac M w w')(b:∀i,i∈M->i<base):Cd w' base v ls:=
 ⟨Ad h.row k b,λp a=>⟨(h.each p a).1.kept k b,(h.each p a).2⟩⟩
theorem Cd.base{w:World}{base base':Nat}{v:Value}{ls:List MH}(h:Cd w base v ls)(b:base'<=base):Cd w base' v ls:=
 ⟨Ai h.row b,λp a=>⟨Ai (h.each p a).1 b,(h.each p a).2⟩⟩
theorem Cd.nil(w:World)(base:Nat):Cd w base (.slice none 0 0) []:=⟨ax _ _ _ _,λp a=>by simp at a⟩
def YL(b:Nat)(mv:Value)(ms:List AV)(br:Int)(w:World)(e:Ending)(w':World):Except Int (List PL×Nat)->Prop
 | .ok (ls,nx)=>∃ad cp lvs,e= .returned (.tuple #[.slice ad ls.length cp, .bool true])/\lvs.map Prod.fst=ls/\Cd w' w.heap.size (.slice ad ls.length cp) lvs/\BY w' b mv ms nx br/\Ac [b] w w'
 | .error p=>∃nx,e= .returned (.tuple #[.slice none 0 0, .bool false])/\BY w' b mv ms nx p/\Ac [b] w w'
set_option maxRecDepth 100000
theorem VG(b:Nat)(mv:Value)(ms:List AV)(nx:Nat)(br:Int)(w:World)(h:BY w b mv ms nx br)(ok:Sx ms):
  Calls prog 133 #[.pointer (some ⟨b,0,none⟩)] w λe w'=>YL b mv ms br w e w' (ER ms nx []):=by
 obtain⟨i0,hi0,hz0,hz1,hz2⟩:=bj Tryz.info217;obtain⟨R,hR⟩:∃R,ER ms nx []=R:=⟨_,rfl⟩;rw[hR];have HRr:=Ab hR;have HO:=Ab ok;have hbw:=h.blk.lt;have hml:=h.len;have HMB:Hid (∀k,w.heap.size<=k->mv.ownBlock≠some k):=λk hk e=>by have:=(h.row.lt k e).2;omega
 have h0:=Ab h;clear hR ok h;go_enter func133,ntmps133;go_wp2_with fail
 go_loopg [4] (ms.length-nx) (λgk o wr=>∃(j:Nat) (acc:List MH) (ad:Option Addr) (cp:Nat),o= .slice ad acc.length cp/\gk=ms.length-j/\Hid (ER ms j (acc.map Prod.fst)=R)/\Hid (BY wr b mv ms j br)/\Hid (Cd wr w.heap.size (.slice ad acc.length cp) acc)/\Hid (Ac [b] w wr)/\acc.length<=j)
 case atStart=>exact⟨nx,[],none,0,rfl,rfl,HRr,h0,Cd.nil _ _,Ac.refl _ _,by simp⟩
 case round=>
  clear h0 HRr;obtain⟨j,acc,ad,cp,rfl,hgk,HL,HR,HB,hK,hal⟩:=hrel;have HG:=Ab hgk;clear hgk;have hjl:=(Aa HR).lt;have hKs:=(Aa hK).size;go_wp2_with fail
  refine(X8 b mv ms j br _ (Aa HR) (Aa HO)).mono ?_;intro e w6 hout;cases ht:GC ms j with
  |error q=>
   rw[ht]at hout;obtain⟨n9,l,⟨ad9,n8,cp9,htv⟩,rfl,h6,k6⟩:=hout;(have HF:Hid (R= .error q):=by show _=_;rw[<-Aa HL];exact GI hjl ht);have hK6:=Ab ((Aa hK).trans k6);have HR6:=Ab h6;clear k6 ht HR HB hK HL h6;obtain⟨lp,ls,⟨la,lan,ltv⟩,ll,lr⟩:=l;simp only at htv;subst htv;simp only[Aq];go_wp2;go_ret2;rw[HF.out];exact⟨n9,rfl,(Aa HR6).kept0 ((Ac.refl [] _).alloc _),(Aa hK6).alloc _⟩
  |ok r=>
   obtain⟨t,n1⟩:=r;rw[ht]at hout;have hn1:=G9 ht;obtain⟨ad6,cp6,rfl,hp6,h6,k6⟩:=hout.uni ht;have HT:=Ab (KT (acc:=acc.map Prod.fst) hjl ht);clear hout ht;generalize Iv t=p at hp6 HT⊢;clear t;have hk6s:=k6.size;have hrow6:=Ad (Aa HB).row k6 (by simp;omega);(have HB6:Hid (∀q∈acc,IM w6 w.heap.size q/\BX q.2 (.slice ad acc.length cp)):=λq hq=>⟨((Aa HB).each q hq).1.kept k6 (by simp;omega),((Aa HB).each q hq).2⟩);have HAP:Hid (BX (.slice ad6 p.ts.length cp6) (.slice ad acc.length cp)):=λk hk he=>by
    have:=(hp6.lt k hk).1;have:=((Aa HB).row.lt k he).2;omega
   have HP6:=Ab hp6;have hK6:=Ab ((Aa hK).trans k6);have HR6:=Ab h6;have hn1l:=h6.lt;clear hp6 h6 k6 HB hK HR;have hnew:((w6.alloc (.cells (Ap (p, .slice ad6 p.ts.length cp6)).toArray 217)).alloc (.cells (Ap (p, .slice ad6 p.ts.length cp6)).toArray 217)).heap[w6.heap.size+1]?=some (.cells (Ap (p, .slice ad6 p.ts.length cp6)).toArray 217 (0,0)):=by
    have hh:=aS (w6.alloc (.cells (Ap (p, .slice ad6 p.ts.length cp6)).toArray 217)) (.cells (Ap (p, .slice ad6 p.ts.length cp6)).toArray 217);rw[show(w6.alloc (.cells (Ap (p, .slice ad6 p.ts.length cp6)).toArray 217)).heap.size=w6.heap.size+1 from by simp]at hh
    exact hh
   have hown8:=ah (ah hrow6 (.cells (Ap (p, .slice ad6 p.ts.length cp6)).toArray 217)) (.cells (Ap (p, .slice ad6 p.ts.length cp6)).toArray 217);(have hal2:acc.length<=1000:=by omega);simp only[Ap];go_wp2_with (at_builtin;refine ay _ rfl (.tmp 14) (.tmp 16) _ rfl w.heap.size 217 i0 _ 9 112 underlying97 hi0 hz0 hz1 hz2 rfl (by omega) (.slice ad acc.length cp) acc.length (acc.flatMap Ap) rfl hown8 ⟨w6.heap.size+1,0,none⟩ 1 1 (Ap (p, .slice ad6 p.ts.length cp6)) rfl rfl (aF (cs:=(Ap (p, .slice ad6 p.ts.length cp6)).toArray) (t:=217) (fr:=(0,0)) hnew) (by simp[Value.oneCell',Ap]) (by omega) (by unfold maxLen;omega) (by omega) (by simp;omega) (w6.heap.size+1+1) (by simp) ?_;intro g1 cp1 w9 ho1 hg1 ha1 hl1)
   have kr:Ac (Value.slice ad acc.length cp).ownBlock.toList w6 w9:=(((Ac.refl _ w6).alloc _).alloc _).grown hg1 (λk hk=>Or.inl (by simp[hk]));(have hrw:∀i∈(Value.slice ad acc.length cp).ownBlock.toList,w.heap.size<=i:=λi hi=>(hrow6.lt i (by simpa using hi)).1);have hmb6:mv.ownBlock≠none->∀k,mv.ownBlock=some k->k<w.heap.size:=λ_ k hk=>by
    by_cases hq:k<w.heap.size
    ·exact hq
    ·exact absurd hk (Aa HMB k (by omega))
   have hR9:BY w9 b mv ms n1 br:=⟨(Aa HR6).blk.kept kr (λhm=>by have:=hrw b hm;omega),Ar (Aa HR6).row kr (λi hi hm=>by have:=hrw i hm;exact absurd hi (Aa HMB i this)),(Aa HR6).ap,(Aa HR6).lt,(Aa HR6).len⟩;have hK9:Ac [b] w w9:=(Aa hK6).trans' kr (λi hi=>Or.inr (by have:=hrw i hi;omega));have hs9:w.heap.size<=w9.heap.size:=hK9.size;have HIN:Hid (Cd w9 w.heap.size (.slice (some ⟨g1,0,none⟩) (acc.length+1) cp1) (acc++[(p, .slice ad6 p.ts.length cp6)])):=by
    refine⟨by simpa using ho1,?_⟩;intro q hq;rcases aw.1 hq with hq|hq
    ·obtain⟨h1,h2⟩:=Aa HB6 q hq;exact⟨h1.keptOf kr (λi hi hm=>h2 i hi (by simpa using hm)),BX.lies h2 h1 ha1 (by omega)⟩
    ·simp only[ae]at hq;subst hq;have h1:IM w6 w.heap.size (p, .slice ad6 p.ts.length cp6):=Ai (Aa HP6) (by omega);exact⟨h1.keptOf kr (λi hi hm=>Aa HAP i hi (by simpa using hm)),BX.lies (Aa HAP) h1 ha1 (by omega)⟩
   have HR9:=Ab hR9;have HK9:=Ab hK9;have hg1w:w.heap.size<=g1:=(ho1.lt g1 rfl).1;clear kr hrw hmb6 hR9 hK9 hg1 ha1 hl1 ho1 hnew hown8 hrow6 HB6 HAP HP6 hK6 HR6;refine(FJ b mv ms n1 br GQ _ (Aa HR9) (Ao ms n1) (Be hn1l) ((Aa HO).seen hn1l GQ)).mono ?_;rintro e w11 ⟨rfl,h11,k11⟩;have HB11:=Ab ((Aa HIN).kept k11 (by simp;omega));have hK11:=Ab ((Aa HK9).trans k11);clear k11 HIN HK9 HR9;cases hs:Bz (Ao ms n1) GQ with
   |true=>
    rw[hs]at h11;simp only[if_true]at h11;have HL2:Hid (ER ms (n1+1) ((acc++[(p,(.slice ad6 p.ts.length cp6:Value))]).map Prod.fst)=R):=by
     show _=_;rw[<-Aa HL,Aa HT,hs];simp
    have HR11:=Ab h11;clear h11 hs HL HT;go_wp2_with fail
    go_roundg (ms.length-(n1+1))
    case measure=>have:=Aa HG;omega
    case rel=>exact⟨n1+1,acc++[(p, .slice ad6 p.ts.length cp6)],some ⟨g1,0,none⟩,cp1,by simp,rfl,HL2,HR11,by simpa using HB11,hK11,by simp;omega⟩
   |false=>
    rw[hs]at h11;simp only[Z8,if_false]at h11;have HF:Hid (R= .ok (acc.map Prod.fst++[p],n1)):=by
     show _=_;rw[<-Aa HL,Aa HT,hs];simp
    have HR11:=Ab h11;clear h11 hs HL HT;go_wp2;go_ret2;rw[HF.out];exact⟨some ⟨g1,0,none⟩,cp1,acc++[(p, .slice ad6 p.ts.length cp6)],by simp,by simp,by simpa using(Aa HB11),Aa HR11,Aa hK11⟩
def U9:cL:=⟨#[58]⟩
def Zg:cL:=⟨#[58,45]⟩
def US:cL:=⟨#[46]⟩
structure PC where
 hp:Int
 hn:cL
 hts:List A3
 body:List PL
def Li(ms:List AV)(n:Nat)(c:PC):Except Int (PC×Nat):=if Bz (Ao ms n) US then .ok (c,n+1)else .error (Ao ms n).place
def B3(ms:List AV)(nx:Nat):Except Int (PC×Nat):=
 match Em ms nx with
 | .error p=> .error p
 | .ok ((p,s,ts),n)=>
  if Bz (Ao ms n) U9 then .error (((Ao ms n).place:Int)+1)
  else if Bz (Ao ms n) Zg then
   match ER ms (n+1) [] with
   | .error q=> .error q
   | .ok (ls,n2)=>Li ms n2 ⟨p,s,ts,ls⟩
  else Li ms n ⟨p,s,ts,[]⟩
theorem Ns{b:List AV}:∀(k a:Nat) (d:List PL) {e:List PL} {n:Nat},b.length-a<=k->ER b a d= .ok (e,n)->a<n
 |k,a,d,e,n,hk,h=>by
  by_cases c:a<b.length
  ·cases hl:GC b a with
   |error p=>rw[GI c hl]at h;cases h
   |ok r=>
    obtain⟨l,f⟩:=r;have g:=G9 hl;rw[KT c hl]at h;split at h
    ·match k with
     |0=>omega
     |k+1=>have:=Ns k (f+1) _ (by omega) h;omega
    ·simp only[bz,aY]at h;omega
  ·unfold ER at h;rw[dif_neg c]at h;cases h
theorem Pp{a:List AV}{n m:Nat}{c b:PC}(h:Li a n c= .ok (b,m)):m=n+1:=by
 unfold Li at h;split at h
 ·simp only[bz,aY]at h;exact h.2.symm
 ·cases h
theorem FZ{b:List AV}{a n:Nat}{c:PC}(h:B3 b a= .ok (c,n)):a<n:=by
 unfold B3 at h;split at h
 ·cases h
 ·rename_i e;have g:=JV e;split at h
  ·cases h
  ·split at h
   ·split at h
    ·cases h
    ·rename_i d;have i:=Ns _ _ _ (au _) d;have f:=Pp h;omega
   ·have f:=Pp h;omega
def Dj(ms:List AV)(nx:Nat)(acc:List PC):Except Int (List PC):=
 if _h:nx<ms.length then
  if(Ao ms nx).kind==1 then .ok acc
  else match B3 ms nx with
   | .error p=> .error p
   | .ok (c,n)=>if _h2:nx<n then Dj ms n (acc++[c])else .error 0
 else .error 0
theorem Lu{a:List AV}{b:Nat}{acc:List PC}(h:b<a.length)(c:((Ao a b).kind==1)=true):Dj a b acc= .ok acc:=by
 unfold Dj;simp[h,c]
theorem IU{a:List AV}{b:Nat}{acc:List PC}{p:Int}(h:b<a.length)(c:((Ao a b).kind==1)=false)(d:B3 a b= .error p):Dj a b acc= .error p:=by
 unfold Dj;simp[h,c,d]
theorem Oq{a:List AV}{b:Nat}{acc:List PC}{c:PC}{n:Nat}(h:b<a.length)(e:((Ao a b).kind==1)=false)(d:B3 a b= .ok (c,n)):Dj a b acc=Dj a n (acc++[c]):=by
 have f:=FZ d
 conv=>lhs;unfold Dj
 simp[h,e,d,f]
def A0(hp:Int)(hn:cL)(hv bv:Value):List Value:=[.int .i64 hp, .string hn,hv,bv]
theorem Aw.fill4{w:World}{N:Nat}{cs:List Value}{t:TypeId}(h:Aw w N cs t)(f:cs.length=4)(c v1 b a:Value):Aw ((((w.setCell ⟨N,0,none⟩ c).setCell ⟨N,1,none⟩ v1).setCell ⟨N,2,none⟩ b).setCell ⟨N,3,none⟩ a) N [c,v1,b,a] t:=by
 have d:=(((h.set 0 c).set 1 v1).set 2 b).set 3 a;have e:(((cs.set 0 c).set 1 v1).set 2 b).set 3 a=[c,v1,b,a]:=by
  match cs,f with
  |[_,_,_,_],_=>rfl
 rw[e]at d;exact d
theorem BY.fill4{w:World}{b:Nat}{d:Value}{e:List AV}{k:Nat}{f:Int}(h:BY w b d e k f){N:Nat}(a:N≠b)(c:d.ownBlock≠some N)(j v1 i g:Value):BY ((((w.setCell ⟨N,0,none⟩ j).setCell ⟨N,1,none⟩ v1).setCell ⟨N,2,none⟩ i).setCell ⟨N,3,none⟩ g) b d e k f:=
 (((h.other (p:=⟨N,0,none⟩) a c j).other (p:=⟨N,1,none⟩) a c v1).other (p:=⟨N,2,none⟩) a c i).other (p:=⟨N,3,none⟩) a c g
theorem Ac.fill4{M:List Nat}{a w:World}(h:Ac M a w){N:Nat}(b:N∈M\/a.heap.size<=N)(d v1 c e:Value):Ac M a ((((w.setCell ⟨N,0,none⟩ d).setCell ⟨N,1,none⟩ v1).setCell ⟨N,2,none⟩ c).setCell ⟨N,3,none⟩ e):=
 (((h.setCell (p:=⟨N,0,none⟩) b d).setCell (p:=⟨N,1,none⟩) b v1).setCell (p:=⟨N,2,none⟩) b c).setCell (p:=⟨N,3,none⟩) b e
structure Im(w:World)(base:Nat)(hv bv:Value)(hts:List A3)(ls:List MH):Prop where
 head:w.ownsRow base 215 2 hv hts.length (hts.flatMap Am)
 body:Cd w base bv ls
theorem Im.kept{M:List Nat}{w w':World}{base:Nat}{a c:Value}{d:List A3}{ls:List MH}(h:Im w base a c d ls)(k:Ac M w w')(b:∀i,i∈M->i<base):Im w' base a c d ls:=⟨Ad h.head k b,h.body.kept k b⟩
theorem Im.base{w:World}{base base':Nat}{a c:Value}{b:List A3}{ls:List MH}(h:Im w base a c b ls)(d:base'<=base):Im w base' a c b ls:=⟨Ai h.head d,h.body.base d⟩
def Vf(b:Nat)(mv:Value)(ms:List AV)(br:Int)(w:World)(e:Ending)(w':World):Except Int (PC×Nat)->Prop
 | .ok (c,nx)=>∃ad cp ad2 cp2 lvs,e= .returned (.tuple #[.agg (A0 c.hp c.hn (.slice ad c.hts.length cp) (.slice ad2 c.body.length cp2)).toArray, .bool true])/\lvs.map Prod.fst=c.body/\Im w' (w.heap.size+1) (.slice ad c.hts.length cp) (.slice ad2 c.body.length cp2) c.hts lvs/\BY w' b mv ms nx br/\Ac [b] w w'
 | .error p=>∃nx hp hn ad n cp ad2 n2 cp2,e= .returned (.tuple #[.agg (A0 hp hn (.slice ad n cp) (.slice ad2 n2 cp2)).toArray, .bool false])/\BY w' b mv ms nx p/\Ac [b] w w'
theorem Rw(b:Nat)(F:Value)(c:List AV)(H:Nat)(J:Int)(w:World)(h:BY w b F c H J)(ok:Sx c)(H3:∀i,(Ao c i).place<=1000000):
  Calls prog 115 #[.pointer (some ⟨b,0,none⟩)] w λe I=>Vf b F c J w e I (B3 c H):=by
 have HO:=Ab ok;have OH:=Ab H3;clear H3;have PT:=h.blk.lt;have K4:∀k,F.ownBlock=some k->k<w.heap.size:=λk hk=>(h.row.lt k hk).2
 have h1:=Ab (h.kept0 ((Ac.refl [] w).alloc (.cells (A0 0 ⟨#[]⟩ (.slice none 0 0) (.slice none 0 0)).toArray 189)));have hN:=Ab (Aw.new w (A0 0 ⟨#[]⟩ (.slice none 0 0) (.slice none 0 0)) 189);have EK:=Ab ((Ac.refl [b] w).alloc (.cells (A0 0 ⟨#[]⟩ (.slice none 0 0) (.slice none 0 0)).toArray 189));have H8:(w.alloc (.cells (A0 0 ⟨#[]⟩ (.slice none 0 0) (.slice none 0 0)).toArray 189)).heap.size=w.heap.size+1:=by simp
 clear h ok;go_enter func115,ntmps115;go_wp2_with fail
 change Calls _ _ _ (w.alloc (.cells (A0 0 ⟨#[]⟩ (.slice none 0 0) (.slice none 0 0)).toArray 189)) _;generalize w.alloc (.cells (A0 0 ⟨#[]⟩ (.slice none 0 0) (.slice none 0 0)).toArray 189)=w1 at h1 hN EK H8⊢;obtain⟨N,KK⟩:∃N,w.heap.size=N:=⟨_,rfl⟩;rw[KK]at hN PT H8 K4⊢;have M:Hid (∀k,N<=k->F.ownBlock≠some k):=λk hk e=>by have:=K4 k e;omega
 clear K4;have L:=Ab KK;clear KK;refine(LG b F c H J _ (Aa h1) (Aa HO)).mono ?_;intro e D O;clear h1;cases ht:Em c H with
 |error q=>
  rw[ht]at O;obtain⟨n9,ap,an,d,NV,f,rfl,h2,U⟩:=O;have HF:Hid (B3 c H= .error q):=by show _=_;unfold B3;rw[ht]
  clear ht;have v:=(Aa hN).kept U (by simp;omega);have HI:=Ab ((Aa EK).trans U);have c0:=v.cell 0;have c1:=v.cell 1;have c2:=v.cell 2;have c3:=v.cell 3;have nf:=v.frozen;have d0:=λo=>(v.alloc o).cell 0
  have d1:=λo=>(v.alloc o).cell 1
  have d2:=λo=>(v.alloc o).cell 2
  have d3:=λo=>(v.alloc o).cell 3
  have df:=λo=>(v.alloc o).frozen
  simp[A0]at c0 c1 c2 c3 d0 d1 d2 d3;have SJ:=v.lt;have q1:¬N=D.heap.size:=by omega
  have q2:¬D.heap.size=N:=by omega
  have z:=Ab h2;have G:=Ab v;clear h2 v U hN EK;simp only[AL];go_wp2;rw[HF.out];have T:=((Aa G).fill4 rfl (.int .i64 0) (.string ⟨#[]⟩) (.slice none 0 0) (.slice none 0 0)).alloc (.cells #[.int .i64 ap, .string an, .slice d NV f] 187);refine aE (AF (P:=prog) (fn:=Tryz.f115) (p:=2) (u:=3) rfl rfl T underlying189 rfl (by kernel_rfl)) rfl ?_;refine⟨n9,0,ByteArray.empty,none,0,0,none,0,0,rfl,?_,?_⟩
  ·exact((Aa z).fill4 (by omega) (Aa M N (by omega)) _ _ _ _).kept0 ((Ac.refl [] _).alloc _)
  ·have:=Aa L;exact((Aa HI).fill4 (by right;omega) _ _ _ _).alloc _
 |ok r=>
  obtain⟨⟨p,s,a⟩,n⟩:=r;rw[ht]at O;obtain⟨tv,SB,rfl,Op,Jx,h2,U⟩:=O;obtain⟨d,f,rfl⟩:=Ak Jx;have AB:Hid (B3 c H=if Bz (Ao c n) U9 then .error (((Ao c n).place:Int)+1)else if Bz (Ao c n) Zg then(match ER c (n+1) [] with| .error q=> .error q| .ok (j,R)=>Li c R ⟨p,s,a,j⟩)else Li c n ⟨p,s,a,[]⟩):=by
   show _=_;unfold B3;rw[ht]
  clear ht;have HU:D.ownsRow (N+1) 215 2 (.slice d a.length f) a.length (a.flatMap Am):=Ai Jx (by omega);have MY:Hid (∀k,(Value.slice d a.length f).ownBlock=some k->k<D.heap.size):=λk e=>(HU.lt k e).2
  have v:=(Aa hN).kept U (by simp;omega);have HI:=(Aa EK).trans U;have QQ:=v.lt;have NY:N+1<=D.heap.size:=by have:=U.size;omega
  clear Jx Op U hN EK H8;have CC:=Ab (h2.kept0 (((Ac.refl [] D).alloc (.cells (AL ⟨p,s, .slice d a.length f⟩).toArray 187)).alloc (.cells (A0 p s (.slice d a.length f) (.slice none 0 0)).toArray 189)));have HY:=Ab ((v.alloc (.cells (AL ⟨p,s, .slice d a.length f⟩).toArray 187)).alloc (.cells (A0 p s (.slice d a.length f) (.slice none 0 0)).toArray 189));have H2:=Ab ((HI.alloc (.cells (AL ⟨p,s, .slice d a.length f⟩).toArray 187)).alloc (.cells (A0 p s (.slice d a.length f) (.slice none 0 0)).toArray 189));have HH:Hid (Aw ((D.alloc (.cells (AL ⟨p,s, .slice d a.length f⟩).toArray 187)).alloc (.cells (A0 p s (.slice d a.length f) (.slice none 0 0)).toArray 189)) (D.heap.size+1) (A0 p s (.slice d a.length f) (.slice none 0 0)) 189):=by
   have hh:=Aw.new (D.alloc (.cells (AL ⟨p,s, .slice d a.length f⟩).toArray 187)) (A0 p s (.slice d a.length f) (.slice none 0 0)) 189;rw[show(D.alloc (.cells (AL ⟨p,s, .slice d a.length f⟩).toArray 187)).heap.size=D.heap.size+1 from by simp]at hh
   exact hh
  have H5:=Ab (ah (ah HU (.cells (AL ⟨p,s, .slice d a.length f⟩).toArray 187)) (.cells (A0 p s (.slice d a.length f) (.slice none 0 0)).toArray 189));clear h2 v HI HU;simp only[AL];go_wp2_with fail
  change Calls _ _ _ ((D.alloc (.cells (AL ⟨p,s, .slice d a.length f⟩).toArray 187)).alloc (.cells (A0 p s (.slice d a.length f) (.slice none 0 0)).toArray 189)) _;generalize(D.alloc (.cells (AL ⟨p,s, .slice d a.length f⟩).toArray 187)).alloc (.cells (A0 p s (.slice d a.length f) (.slice none 0 0)).toArray 189)=w3 at CC HY H2 HH H5⊢;obtain⟨C,LE⟩:∃C,D.heap.size+1=C:=⟨_,rfl⟩;have SL:N+1<C:=by omega
  have N2:Hid ((Value.slice d a.length f).ownBlock≠some C):=λe=>by have:=Aa MY C e;omega
  clear MY;rw[LE]at HH⊢;clear LE NY QQ;refine(PK b F c n J U9 _ (Aa CC) (Ao c n) (Be (Aa CC).lt)).mono ?_;rintro e w4 ⟨rfl,k4⟩;have Y:=Ab ((Aa CC).kept0 k4);have HA:=Ab ((Aa HY).kept k4 (by simp));have K9:=Ab ((Aa HH).kept k4 (by simp));have FW:=Ab ((Aa H2).trans (k4.mono (by simp)));have H1:=Ab (Ad (Aa H5) k4 (by simp));clear CC HY HH H2 H5 k4;cases hc:Bz (Ao c n) U9 with
  |true=>
   (have HF:Hid (B3 c H= .error (((Ao c n).place:Int)+1)):=by show _=_;rw[Aa AB,hc];rfl);clear AB hc K9 H1;(go_wp2_with fail);refine(I0 b F c n J _ (Aa Y) (Ao c n) (Be (Aa Y).lt)).mono ?_;rintro e w5 ⟨rfl,K⟩;have M6:=Ab ((Aa Y).kept0 K);have S:=Ab ((Aa HA).kept K (by simp));have Q:=Ab ((Aa FW).trans (K.mono (by simp)));have H3:(Ao c n).place<=1000000:=Aa OH n;clear Y HA FW K;(go_wp2_with fail);refine(Fp b F c n J (((Ao c n).place:Int)+1) _ (Aa M6)).mono ?_;rintro e V ⟨rfl,Z,B⟩;have t:=(Aa S).kept B (by simp;omega);have AT:=Ab ((Aa Q).trans B);have c0:=t.cell 0;have c1:=t.cell 1;have c2:=t.cell 2;have c3:=t.cell 3;have nf:=t.frozen;simp[A0]at c0 c1 c2 c3;have G:=Ab t;have z:=Ab Z;clear t Z B M6 S Q;go_wp2;rw[HF.out];have T:=(Aa G).fill4 rfl (.int .i64 0) (.string ⟨#[]⟩) (.slice none 0 0) (.slice none 0 0);refine aE (AF (P:=prog) (fn:=Tryz.f115) (p:=2) (u:=3) rfl rfl T underlying189 rfl (by kernel_rfl)) rfl ?_;refine⟨n,0,ByteArray.empty,none,0,0,none,0,0,rfl,?_,?_⟩
   ·exact(Aa z).fill4 (by omega) (Aa M N (by omega)) _ _ _ _
   ·have:=Aa L;exact(Aa AT).fill4 (by right;omega) _ _ _ _
  |false=>
   have Go:=Ab hc;clear hc;(go_wp2_with fail);refine(FJ b F c n J Zg _ (Aa Y) (Ao c n) (Be (Aa Y).lt) ((Aa HO).seen (Aa Y).lt Zg)).mono ?_;rintro e w5 ⟨rfl,W,K⟩;have S:=Ab ((Aa HA).kept K (by simp;omega));have Ax:=Ab ((Aa K9).kept K (by simp;omega));have Q:=Ab ((Aa FW).trans K);have B9:=Ab (Ad (Aa H1) K (by simp;omega));clear Y HA K9 FW H1 K;cases hd:Bz (Ao c n) Zg with
   |false=>
    rw[hd]at W;simp only[Z8,if_false]at W;(have HD:Hid (B3 c H=Li c n ⟨p,s,a,[]⟩):=by show _=_;rw[Aa AB,Aa Go,hd];rfl);have z:=Ab W;have G:=S;have A:=Ax;have HK:=Q;have HP:Hid (Im w5 (N+1) (.slice d a.length f) (.slice none 0 0) a []):=⟨Aa B9,Cd.nil _ _⟩;clear hd W AB Go S Ax Q B9;have EX:=(Aa z).lt;have JJ:=Ab (KX b F c n J US _ ((Aa z).kept0 (Ac.refl [] w5).drew) (Ao c n) (Be EX) ((Aa HO).seen EX US));have e0:=(Aa A).cell 0;have e1:=(Aa A).cell 1;have e2:=(Aa A).cell 2;have e3:=(Aa A).cell 3;simp[A0]at e0 e1 e2 e3;(have HT:Hid (∀m,Ac [b] w5.drew m->Aw m N (A0 0 ⟨#[]⟩ (.slice none 0 0) (.slice none 0 0)) 189/\Aw m C (A0 p s (.slice d a.length f) (.slice none 0 0)) 189):=λm k=>⟨(Aa G).drew.kept k (by simp;omega),(Aa A).drew.kept k (by simp;omega)⟩);(have q1:¬C=N:=by omega);(have q2:¬N=C:=by omega);clear z G A;go_wp2_with fail
    go_region_held3 (λI=>I.cell? ⟨C,0,none⟩=some (.int .i64 p)/\I.cell? ⟨C,1,none⟩=some (.string s)/\I.cell? ⟨C,2,none⟩=some (.slice d a.length f)/\I.cell? ⟨C,3,none⟩=some (.slice none 0 0)) (go_keep) ((go_at_call 163;refine(Aa JJ).mono ?_;rintro e m ⟨rfl,l,E⟩;have g:=Aa HT m E;have f0:=g.2.cell 0;have f1:=g.2.cell 1;have f2:=g.2.cell 2;have f3:=g.2.cell 3;have p0:=g.1.cell 0;have p1:=g.1.cell 1;have p2:=g.1.cell 2;have p3:=g.1.cell 3;have pf:=g.1.frozen;simp[A0]at f0 f1 f2 f3 p0 p1 p2 p3;have HZ:=Ab (And.intro l (And.intro E g));clear l E g))
    rename_i HV;clear HV;go_wp2;obtain⟨l,E,g,_⟩:=Aa HZ;have T:=g.fill4 rfl (.int .i64 p) (.string s) (.slice d a.length f) (.slice none 0 0);have FP:Ac [b] w m:=(Aa HK).drew.trans E;have LB:Im m (N+1) (.slice d a.length f) (.slice none 0 0) a []:=((Aa HP).kept (Ac.refl [] w5).drew (by simp)).kept E (by simp;omega);refine aE (AF (P:=prog) (fn:=Tryz.f115) (p:=2) (u:=3) rfl rfl T underlying189 rfl (by kernel_rfl)) rfl ?_;rw[Aa HD];cases hcl:Bz (Ao c n) US with
    |true=>
     rw[hcl]at l;simp only[if_true]at l;unfold Li;rw[hcl];simp only[if_true];refine⟨d,f,none,0,[],rfl,rfl,?_,?_,?_⟩
     ·rw[Aa L];exact LB.kept ((Ac.refl [N] m).fill4 (by simp) _ _ _ _) (by simp)
     ·exact l.fill4 (by omega) (Aa M N (by omega)) _ _ _ _
     ·have:=Aa L;exact FP.fill4 (by right;omega) _ _ _ _
    |false=>
     rw[hcl]at l;simp only[Z8,if_false]at l;unfold Li;rw[hcl];simp only[Z8,if_false];refine⟨n,p,s,d,a.length,f,none,_,0,rfl,?_,?_⟩
     ·exact l.fill4 (by omega) (Aa M N (by omega)) _ _ _ _
     ·have:=Aa L;exact FP.fill4 (by right;omega) _ _ _ _
   |true=>
    rw[hd]at W;simp only[if_true]at W;have HG:Hid (B3 c H=(match ER c (n+1) [] with| .error q=> .error q| .ok (j,R)=>Li c R ⟨p,s,a,j⟩)):=by show _=_;rw[Aa AB,Aa Go,hd];rfl
    have NL:=Ab W;clear hd W AB Go;have N4:=(Aa Ax).lt;(go_wp2_with fail);refine(VG b F c (n+1) J _ (Aa NL) (Aa HO)).mono ?_;intro e V O;clear NL;cases hb:ER c (n+1) [] with
    |error q=>
     rw[hb]at O;obtain⟨n9,rfl,Z,B⟩:=O;(have HF:Hid (B3 c H= .error q):=by show _=_;rw[Aa HG,hb]);have t:=(Aa S).kept B (by simp;omega);have X:=(Aa Ax).kept B (by simp;omega);have AT:=Ab ((Aa Q).trans B);have c0:=t.cell 0;have c1:=t.cell 1;have c2:=t.cell 2;have c3:=t.cell 3;have nf:=t.frozen;have d3:=X.cell 3;have df:=X.frozen;simp[A0]at c0 c1 c2 c3 d3;(have q1:¬C=N:=by omega);(have q2:¬N=C:=by omega);have G:=Ab t;have z:=Ab Z;clear t X Z B hb HG S Ax Q B9;go_wp2;rw[HF.out];have T:=((Aa G).set_other ⟨C,3,none⟩ (by simp;omega) (.slice none 0 0)).fill4 rfl (.int .i64 0) (.string ⟨#[]⟩) (.slice none 0 0) (.slice none 0 0);refine aE (AF (P:=prog) (fn:=Tryz.f115) (p:=2) (u:=3) rfl rfl T underlying189 rfl (by kernel_rfl)) rfl ?_;refine⟨n9,0,ByteArray.empty,none,0,0,none,0,0,rfl,?_,?_⟩
     ·exact((Aa z).other (p:=⟨C,3,none⟩) (by simp;omega) (Aa M C (by omega)) _).fill4 (by omega) (Aa M N (by omega)) _ _ _ _
     ·have:=Aa L;exact((Aa AT).setCell (p:=⟨C,3,none⟩) (by right;simp;omega) _).fill4 (by right;omega) _ _ _ _
    |ok r=>
     obtain⟨j,R⟩:=r;rw[hb]at O;obtain⟨y,x,Ha,rfl,MN,LL,Z,B⟩:=O;(have HD:Hid (B3 c H=Li c R ⟨p,s,a,j⟩):=by show _=_;rw[Aa HG,hb]);have t:=(Aa S).kept B (by simp;omega);have X:=(Aa Ax).kept B (by simp;omega);have AT:=(Aa Q).trans B;have Nx:=Ad (Aa B9) B (by simp;omega);have d3:=X.cell 3;have df:=X.frozen;simp[A0]at d3;have M0:=Ab t;have LC:=Ab X;have Nq:=Ab AT;have MB:=Ab Nx;have K5:=Ab (And.intro MN LL);have L0:=Ab Z;clear t X AT Nx MN LL Z B hb HG S Ax Q B9;(go_wp2_with fail);have RO:C<w5.heap.size:=N4;have z:=Ab ((Aa L0).other (p:=⟨C,3,none⟩) (by simp;omega) (Aa M C (by omega)) (.slice y j.length x));have G:=Ab ((Aa M0).set_other ⟨C,3,none⟩ (by simp;omega) (.slice y j.length x));have A:Hid (Aw (V.setCell ⟨C,3,none⟩ (.slice y j.length x)) C (A0 p s (.slice d a.length f) (.slice y j.length x)) 189):=(Aa LC).set 3 _;have HK:Hid (Ac [b] w (V.setCell ⟨C,3,none⟩ (.slice y j.length x))):=by
      have:=Aa L;exact(Aa Nq).setCell (p:=⟨C,3,none⟩) (by right;simp;omega) _
     have HP:Hid (Im (V.setCell ⟨C,3,none⟩ (.slice y j.length x)) (N+1) (.slice d a.length f) (.slice y j.length x) a Ha):=by
      have kC:Ac [C] V (V.setCell ⟨C,3,none⟩ (.slice y j.length x)):=(Ac.refl [C] V).setCell (by simp) _;refine⟨?_,((Aa K5).2.kept kC (by simp;omega)).base (by omega)⟩;exact Ag (Aa MB) (p:=⟨C,3,none⟩) (Aa N2) _
     have HM:Hid (Ha.map Prod.fst=j):=(Aa K5).1;clear L0 M0 LC Nq MB K5 d3 df;generalize V.setCell ⟨C,3,none⟩ (.slice y j.length x)=w7 at z G A HK HP⊢;have EX:=(Aa z).lt;have JJ:=Ab (KX b F c R J US _ ((Aa z).kept0 (Ac.refl [] w7).drew) (Ao c R) (Be EX) ((Aa HO).seen EX US));have e0:=(Aa A).cell 0;have e1:=(Aa A).cell 1;have e2:=(Aa A).cell 2;have e3:=(Aa A).cell 3;simp[A0]at e0 e1 e2 e3;(have HT:Hid (∀m,Ac [b] w7.drew m->Aw m N (A0 0 ⟨#[]⟩ (.slice none 0 0) (.slice none 0 0)) 189/\Aw m C (A0 p s (.slice d a.length f) (.slice y j.length x)) 189):=λm k=>⟨(Aa G).drew.kept k (by simp;omega),(Aa A).drew.kept k (by simp;omega)⟩);(have q1:¬C=N:=by omega);(have q2:¬N=C:=by omega);clear z G A;go_wp2_with fail
     go_region_held3 (λI=>I.cell? ⟨C,0,none⟩=some (.int .i64 p)/\I.cell? ⟨C,1,none⟩=some (.string s)/\I.cell? ⟨C,2,none⟩=some (.slice d a.length f)/\I.cell? ⟨C,3,none⟩=some (.slice y j.length x)) (go_keep) ((go_at_call 163;refine(Aa JJ).mono ?_;rintro e m ⟨rfl,l,E⟩;have g:=Aa HT m E;have f0:=g.2.cell 0;have f1:=g.2.cell 1;have f2:=g.2.cell 2;have f3:=g.2.cell 3;have p0:=g.1.cell 0;have p1:=g.1.cell 1;have p2:=g.1.cell 2;have p3:=g.1.cell 3;have pf:=g.1.frozen;simp[A0]at f0 f1 f2 f3 p0 p1 p2 p3;have HZ:=Ab (And.intro l (And.intro E g));clear l E g))
     rename_i HV;clear HV;go_wp2;obtain⟨l,E,g,_⟩:=Aa HZ;have T:=g.fill4 rfl (.int .i64 p) (.string s) (.slice d a.length f) (.slice y j.length x);have FP:Ac [b] w m:=(Aa HK).drew.trans E;have LB:Im m (N+1) (.slice d a.length f) (.slice y j.length x) a Ha:=((Aa HP).kept (Ac.refl [] w7).drew (by simp)).kept E (by simp;omega);refine aE (AF (P:=prog) (fn:=Tryz.f115) (p:=2) (u:=3) rfl rfl T underlying189 rfl (by kernel_rfl)) rfl ?_;rw[Aa HD];cases hcl:Bz (Ao c R) US with
     |true=>
      rw[hcl]at l;simp only[if_true]at l;unfold Li;rw[hcl];simp only[if_true];refine⟨d,f,y,x,Ha,rfl,Aa HM,?_,?_,?_⟩
      ·rw[Aa L];exact LB.kept ((Ac.refl [N] m).fill4 (by simp) _ _ _ _) (by simp)
      ·exact l.fill4 (by omega) (Aa M N (by omega)) _ _ _ _
      ·have:=Aa L;exact FP.fill4 (by right;omega) _ _ _ _
     |false=>
      rw[hcl]at l;simp only[Z8,if_false]at l;unfold Li;rw[hcl];simp only[Z8,if_false];refine⟨R,p,s,d,a.length,f,y,_,x,rfl,?_,?_⟩
      ·exact l.fill4 (by omega) (Aa M N (by omega)) _ _ _ _
      ·have:=Aa L;exact FP.fill4 (by right;omega) _ _ _ _
