import Derived.Test.YtoihbhenbmffcaaGreatDoorYAD
import Derived.Test.YtoihbhenbmffcaaGreatDoorYAB
set_option linter.all false
set_option maxHeartbeats 0
open List renaming length->Z,toArray->j3
open Option renaming none->Y,some->V
open Go.Value renaming slice->U,int->X,string->O,bool->lT
open Go.IntKind renaming i64->J
open Go.Obj renaming cells->j2
open Go renaming World->l9,Value->lN
open ByteArray renaming empty->lU
open Prod renaming fst->lW
namespace Go.Proofs.YtoihbhenbmffcaaGreatDoor
open Go.RowKit Go.Proofs.Tryz
theorem Tryz.yT:(Tryz.prog.info? 217).map (λi=>(i.zero,i.size,i.bytes))=V (V (.agg #[X J 0,X J 0,X J 0,O ⟨#[]⟩,U Y 0 0,X .i32 0,O ⟨#[]⟩,X .i32 0,O ⟨#[]⟩]),9,112):=by kernel_rfl
structure PL where
 place:Int
 sort:Int
 ap:Int
 an:zA
 ts:mc AQ
 l:AQ
 r:AQ
def JG:aq->PL
 | .inl (pl,so,p,s,ts)=>⟨pl,so,p,s,ts,AD,AD⟩
 | .inr c=>⟨c.place,c.sort,0,lU,[],c.left,c.right⟩
abbrev Ks:=PL×lN
def Aw(p:Ks):mc lN:=[X J p.1.place,X J p.1.sort,X J p.1.ap,O p.1.an,p.2,X .i32 p.1.l.v,O p.1.l.s,X .i32 p.1.r.v,O p.1.r.s]
def J1(w:l9)(base:Nat)(p:Ks):Prop:=w.ownsRow base 215 2 p.2 (Z p.1.ts) (p.1.ts.flatMap Aq)
def J1.zV{M:mc Nat}{w w':l9}{base:Nat}{p:Ks}(h:J1 w base p)(k:Ac M w w')(a:∀i,p.2.ownBlock=V i->i∉M):J1 w' base p:=Ai h k a
def J1.kept{M:mc Nat}{w w':l9}{base:Nat}{p:Ks}(h:J1 w base p)(k:Ac M w w')(a:∀i,i∈M->i<base):J1 w' base p:=Ad h k a
def Xo.uni{b:Nat}{o:lN}{ms:mc AZ}{k:Int}{w w':l9}{e:Ending}{r n:Nat}{l:aq}(d:Hl ms r=.ok (l,n))(h:Xo b o ms k w e w' (.ok (l,n))):
  ∃g f,e=.returned (.tuple #[.agg (j3 (Aw (JG l,U g (Z (JG l).ts) f))),lT true])/\J1 w' w.heap.size (JG l,U g (Z (JG l).ts) f)/\B3 w' b o ms n k/\Ac [b] w w':=by
 cases l with
 |inl a=>
  obtain⟨D,x,p,s,F⟩:=a;obtain⟨z,y,rfl,t,m,j,i⟩:=h;obtain⟨g,f,rfl⟩:=Al m;exact⟨g,f,rfl,Am m t,j,i⟩
 |inr c=>
  have v:Hi ms r=.ok (c,n):=by
   unfold Hl at d;split at d
   .split at d<;>simp at d
   .split at d
    .split at d<;>simp at d
    .split at d
     .simp at d
     .rename_i u;simp only[i8,iE,Sum.inr.injEq]at d;rw[u];simp[d]
  have q:=Sm v;obtain⟨f,A,B,E,C⟩:=c;simp only at q;subst q;obtain⟨rfl,j,i⟩:=h;exact⟨Y,0,rfl,ip _ _ _ _,j,i⟩
def P2{ms:mc AZ}:∀(k a:Nat) (c:mc AQ) {b:mc AQ} {n:Nat},Z ms-a<=k->Gf ms a c=.ok (b,n)->a<n
 |k,a,c,b,n,hk,h=>by
  unfold Gf at h;split at h
  .rename_i d;split at h
   .cases h
   .split at h
    .match k with
     |0=>omega
     |k+1=>have:=P2 k (a+2) _ (by omega) h;omega
    .split at h
     .simp only[i8,iE]at h;omega
     .cases h
  .cases h
def Lt{ms:mc AZ}{b:Nat}{a:Nat×zA×mc AQ}{n:Nat}(h:EW ms b=.ok (a,n)):b<n:=by
 unfold EW at h;split at h
 .split at h
  .split at h
   .cases h
   .rename_i c;simp only[i8,iE]at h;have:=P2 _ _ _ (ig _) c;omega
  .cases h
 .cases h
def Zt{ms:mc AZ}{a:Nat}{l:ai}{n:Nat}(h:Hi ms a=.ok (l,n)):a<n:=by
 unfold Hi at h;split at h
 .cases h
 .rename_i b;have d:=FH b;split at h
  .cases h
  .split at h
   .cases h
   .rename_i c;have q2:=FH c;simp only[i8,iE]at h;omega
def IA{ms:mc AZ}{b:Nat}{l:aq}{n:Nat}(h:Hl ms b=.ok (l,n)):b<n:=by
 unfold Hl at h;split at h
 .split at h
  .cases h
  .rename_i a;have:=Lt a;simp only[i8,iE]at h;omega
 .split at h
  .split at h
   .cases h
   .rename_i a;have:=Lt a;simp only[i8,iE]at h;omega
  .split at h
   .cases h
   .rename_i a;have:=Zt a;simp only[i8,iE]at h;omega
def EB(ms:mc AZ)(nx:Nat)(acc:mc PL):Except Int (mc PL×Nat):=
 if _h:nx<Z ms then
  match Hl ms nx with
  | .error p=> .error p
  | .ok (l,n)=>
   if _h2:nx<n then
    if BM (As ms n) Hv then EB ms (n+1) (acc++[JG l])else .ok (acc++[JG l],n)
   else .error 0
 else .error 0
def Hp{ms:mc AZ}{a:Nat}{acc:mc PL}{p:Int}(h:a<Z ms)(b:Hl ms a=.error p):EB ms a acc=.error p:=by
 unfold EB;simp[h,b]
def MC{ms:mc AZ}{a:Nat}{acc:mc PL}{l:aq}{n:Nat}(h:a<Z ms)(b:Hl ms a=.ok (l,n)):
  EB ms a acc=if BM (As ms n) Hv then EB ms (n+1) (acc++[JG l])else .ok (acc++[JG l],n):=by
 have c:=IA b
 conv=>lhs;unfold EB
 simp[h,b,c]
structure BP(w:l9)(base:Nat)(v:lN)(ls:mc Ks):Prop where
 row:w.ownsRow base 217 9 v (Z ls) (ls.flatMap Aw)
 each:∀p∈ls,J1 w base p/\Cd p.2 v
def BP.kept{M:mc Nat}{w w':l9}{base:Nat}{v:lN}{ls:mc Ks}(h:BP w base v ls)(k:Ac M w w')(b:∀i,i∈M->i<base):BP w' base v ls:=
 ⟨Ad h.row k b,λp a=>⟨(h.each p a).1.kept k b,(h.each p a).2⟩⟩
def BP.base{w:l9}{base base':Nat}{v:lN}{ls:mc Ks}(h:BP w base v ls)(b:base'<=base):BP w base' v ls:=
 ⟨Am h.row b,λp a=>⟨Am (h.each p a).1 b,(h.each p a).2⟩⟩
def BP.nil(w:l9)(base:Nat):BP w base (U Y 0 0) []:=⟨ip _ _ _ _,λp a=>by simp at a⟩
def du(b:Nat)(mv:lN)(ms:mc AZ)(br:Int)(w:l9)(e:Ending)(w':l9):Except Int (mc PL×Nat)->Prop
 | .ok (ls,nx)=>∃ad cp zD,e=.returned (.tuple #[U ad (Z ls) cp,lT true])/\zD.map lW=ls/\BP w' w.heap.size (U ad (Z ls) cp) zD/\B3 w' b mv ms nx br/\Ac [b] w w'
 | .error p=>∃nx,e=.returned (.tuple #[U Y 0 0,lT false])/\B3 w' b mv ms nx p/\Ac [b] w w'
set_option maxRecDepth 100000
theorem RR(b:Nat)(mv:lN)(ms:mc AZ)(nx:Nat)(br:Int)(w:l9)(h:B3 w b mv ms nx br)(ok:VB ms):
  Calls prog 133 #[.pointer (V ⟨b,0,Y⟩)] w λe w'=>du b mv ms br w e w' (EB ms nx []):=by
 obtain⟨i0,hi0,hz0,hz1,hz2⟩:=iR Tryz.yT;obtain⟨R,hR⟩:∃R,EB ms nx []=R:=⟨_,rfl⟩;rw[hR];have HRr:=Ab hR;have HO:=Ab ok;have hbw:=h.zO.lt;have hml:=h.len;have HMB:Hid (∀k,w.heap.size<=k->mv.ownBlock≠V k):=λk hk e=>by have:=(h.row.lt k e).2;omega
 have h0:=Ab h;clear hR ok h;go_enter func133,ntmps133;go_wp2_with fail
 go_loopg [4] (Z ms-nx) (λgk o wr=>∃(j:Nat) (acc:mc Ks) (ad:Option Addr) (cp:Nat),o=U ad (Z acc) cp/\gk=Z ms-j/\Hid (EB ms j (acc.map lW)=R)/\Hid (B3 wr b mv ms j br)/\Hid (BP wr w.heap.size (U ad (Z acc) cp) acc)/\Hid (Ac [b] w wr)/\Z acc<=j)
 case atStart=>exact⟨nx,[],Y,0,rfl,rfl,HRr,h0,BP.nil _ _,me _ _,by simp⟩
 case round=>
  clear h0 HRr;obtain⟨j,acc,ad,cp,rfl,hgk,HL,HR,HB,hK,hal⟩:=hrel;have HG:=Ab hgk;clear hgk;have hjl:=HR.lt;have hKs:=hK.size;go_wp2_with fail
  refine(b8 b mv ms j br _ HR HO).mono ?_;intro e w6 hout;cases ht:Hl ms j with
  |error q=>
   rw[ht]at hout;obtain⟨n9,l,⟨ad9,n8,cp9,htv⟩,rfl,h6,k6⟩:=hout;(have HF:Hid (R=.error q):=by show _=_;rw[<-Aa HL];exact Hp hjl ht);have hK6:=Ab (hK.trans k6);have HR6:=Ab h6;clear k6 ht HR HB hK HL h6;obtain⟨lp,ls,⟨la,lan,ltv⟩,ll,lr⟩:=l;simp only at htv;subst htv;simp only[Ay];go_wp2;go_ret2;rw[HF.out];exact⟨n9,rfl,HR6.zI ((me [] _).alloc _),hK6.alloc _⟩
  |ok r=>
   obtain⟨t,n1⟩:=r;rw[ht]at hout;have hn1:=IA ht;obtain⟨ad6,cp6,rfl,hp6,h6,k6⟩:=hout.uni ht;have HT:=Ab (MC (acc:=acc.map lW) hjl ht);clear hout ht;generalize JG t=p at hp6 HT⊢;clear t;have hk6s:=k6.size;have hrow6:=Ad HB.row k6 (by simp;omega);(have HB6:Hid (∀q∈acc,J1 w6 w.heap.size q/\Cd q.2 (U ad (Z acc) cp)):=λq hq=>⟨(HB.each q hq).1.kept k6 (by simp;omega),(HB.each q hq).2⟩);have HAP:Hid (Cd (U ad6 (Z p.ts) cp6) (U ad (Z acc) cp)):=λk hk he=>by
    have:=(hp6.lt k hk).1;have:=(HB.row.lt k he).2;omega
   have HP6:=Ab hp6;have hK6:=Ab (hK.trans k6);have HR6:=Ab h6;have hn1l:=h6.lt;clear hp6 h6 k6 HB hK HR;have hnew:((w6.alloc (j2 (j3 (Aw (p,U ad6 (Z p.ts) cp6))) 217)).alloc (j2 (j3 (Aw (p,U ad6 (Z p.ts) cp6))) 217)).heap[w6.heap.size+1]?=V (j2 (j3 (Aw (p,U ad6 (Z p.ts) cp6))) 217 (0,0)):=by
    have hh:=iD (w6.alloc (j2 (j3 (Aw (p,U ad6 (Z p.ts) cp6))) 217)) (j2 (j3 (Aw (p,U ad6 (Z p.ts) cp6))) 217);rw[show(w6.alloc (j2 (j3 (Aw (p,U ad6 (Z p.ts) cp6))) 217)).heap.size=w6.heap.size+1 from by simp]at hh
    exact hh
   have hown8:=gU (gU hrow6 (j2 (j3 (Aw (p,U ad6 (Z p.ts) cp6))) 217)) (j2 (j3 (Aw (p,U ad6 (Z p.ts) cp6))) 217);(have hal2:Z acc<=1000:=by omega);simp only[Aw];go_wp2_with (at_builtin;refine io _ rfl (.tmp 14) (.tmp 16) _ rfl w.heap.size 217 i0 _ 9 112 underlying97 hi0 hz0 hz1 hz2 rfl (by omega) (U ad (Z acc) cp) (Z acc) (acc.flatMap Aw) rfl hown8 ⟨w6.heap.size+1,0,Y⟩ 1 1 (Aw (p,U ad6 (Z p.ts) cp6)) rfl rfl (iu (cs:=j3 (Aw (p,U ad6 (Z p.ts) cp6))) (t:=217) (fr:=(0,0)) hnew) (by simp[Value.oneCell',Aw]) (by omega) (by unfold maxLen;omega) (by omega) (by simp;omega) (w6.heap.size+1+1) (by simp) ?_;intro g1 cp1 w9 ho1 hg1 ha1 hl1)
   have kr:Ac (U ad (Z acc) cp).ownBlock.toList w6 w9:=(((me _ w6).alloc _).alloc _).grown hg1 (λk hk=>Or.inl (by simp[hk]));(have hrw:∀i∈(U ad (Z acc) cp).ownBlock.toList,w.heap.size<=i:=λi hi=>(hrow6.lt i (by simpa using hi)).1);have hmb6:mv.ownBlock≠Y->∀k,mv.ownBlock=V k->k<w.heap.size:=λ_ k hk=>by
    by_cases hq:k<w.heap.size
    .exact hq
    .exact absurd hk (HMB k (by omega))
   have hR9:B3 w9 b mv ms n1 br:=⟨HR6.zO.kept kr (λhm=>by have:=hrw b hm;omega),Ai HR6.row kr (λi hi hm=>by have:=hrw i hm;exact absurd hi (HMB i this)),HR6.ap,HR6.lt,HR6.len⟩;have hK9:Ac [b] w w9:=hK6.trans' kr (λi hi=>Or.inr (by have:=hrw i hi;omega));have hs9:w.heap.size<=w9.heap.size:=hK9.size;have HIN:Hid (BP w9 w.heap.size (U (V ⟨g1,0,Y⟩) (Z acc+1) cp1) (acc++[(p,U ad6 (Z p.ts) cp6)])):=by
    refine⟨by simpa using ho1,?_⟩;intro q hq;rcases ic.1 hq with hq|hq
    .obtain⟨h1,h2⟩:=HB6 q hq;exact⟨h1.zV kr (λi hi hm=>h2 i hi (by simpa using hm)),Cd.ze h2 h1 ha1 (by omega)⟩
    .simp only[gN]at hq;subst hq;have h1:J1 w6 w.heap.size (p,U ad6 (Z p.ts) cp6):=Am HP6 (by omega);exact⟨h1.zV kr (λi hi hm=>HAP i hi (by simpa using hm)),Cd.ze HAP h1 ha1 (by omega)⟩
   have HR9:=Ab hR9;have HK9:=Ab hK9;have hg1w:w.heap.size<=g1:=(ho1.lt g1 rfl).1;clear kr hrw hmb6 hR9 hK9 hg1 ha1 hl1 ho1 hnew hown8 hrow6 HB6 HAP HP6 hK6 HR6;refine(Gt b mv ms n1 br Hv _ HR9 (As ms n1) (Bb hn1l) (HO.seen hn1l Hv)).mono ?_;rintro e w11 ⟨rfl,h11,k11⟩;have HB11:=Ab (HIN.kept k11 (by simp;omega));have hK11:=Ab (HK9.trans k11);clear k11 HIN HK9 HR9;cases hs:BM (As ms n1) Hv with
   |true=>
    rw[hs]at h11;simp only[if_true]at h11;have HL2:Hid (EB ms (n1+1) ((acc++[(p,(U ad6 (Z p.ts) cp6:lN))]).map lW)=R):=by
     show _=_;rw[<-Aa HL,Aa HT,hs];simp
    have HR11:=Ab h11;clear h11 hs HL HT;go_wp2_with fail
    go_roundg (Z ms-(n1+1))
    case measure=>have:=Aa HG;omega
    case rel=>exact⟨n1+1,acc++[(p,U ad6 (Z p.ts) cp6)],V ⟨g1,0,Y⟩,cp1,by simp,rfl,HL2,HR11,by simpa using HB11,hK11,by simp;omega⟩
   |false=>
    rw[hs]at h11;simp only[gO,if_false]at h11;have HF:Hid (R=.ok (acc.map lW++[p],n1)):=by
     show _=_;rw[<-Aa HL,Aa HT,hs];simp
    have HR11:=Ab h11;clear h11 hs HL HT;go_wp2;go_ret2;rw[HF.out];exact⟨V ⟨g1,0,Y⟩,cp1,acc++[(p,U ad6 (Z p.ts) cp6)],by simp,by simp,by simpa using(Aa HB11),Aa HR11,Aa hK11⟩
def Yv:zA:=⟨#[58]⟩
def eo:zA:=⟨#[58,45]⟩
def Yb:zA:=⟨#[46]⟩
structure PC where
 hp:Int
 hn:zA
 zE:mc AQ
 body:mc PL
def MP(ms:mc AZ)(n:Nat)(c:PC):Except Int (PC×Nat):=if BM (As ms n) Yb then .ok (c,n+1)else .error (As ms n).place
def Cj(ms:mc AZ)(nx:Nat):Except Int (PC×Nat):=
 match EW ms nx with
 | .error p=> .error p
 | .ok ((p,s,ts),n)=>
  if BM (As ms n) Yv then .error (((As ms n).place:Int)+1)
  else if BM (As ms n) eo then
   match EB ms (n+1) [] with
   | .error q=> .error q
   | .ok (ls,n2)=>MP ms n2 ⟨p,s,ts,ls⟩
  else MP ms n ⟨p,s,ts,[]⟩
def Pv{ms:mc AZ}:∀(k a:Nat) (c:mc PL) {d:mc PL} {n:Nat},Z ms-a<=k->EB ms a c=.ok (d,n)->a<n
 |k,a,c,d,n,hk,h=>by
  by_cases b:a<Z ms
  .cases hl:Hl ms a with
   |error p=>rw[Hp b hl]at h;cases h
   |ok r=>
    obtain⟨l,e⟩:=r;have f:=IA hl;rw[MC b hl]at h;split at h
    .match k with
     |0=>omega
     |k+1=>have:=Pv k (e+1) _ (by omega) h;omega
    .simp only[i8,iE]at h;omega
  .unfold EB at h;rw[dif_neg b]at h;cases h
def RW{ms:mc AZ}{n m:Nat}{c a:PC}(h:MP ms n c=.ok (a,m)):m=n+1:=by
 unfold MP at h;split at h
 .simp only[i8,iE]at h;exact h.2.symm
 .cases h
def GG{ms:mc AZ}{a n:Nat}{c:PC}(h:Cj ms a=.ok (c,n)):a<n:=by
 unfold Cj at h;split at h
 .cases h
 .rename_i b;have e:=Lt b;split at h
  .cases h
  .split at h
   .split at h
    .cases h
    .rename_i d;have q2:=Pv _ _ _ (ig _) d;have q3:=RW h;omega
   .have q3:=RW h;omega
def C1(ms:mc AZ)(nx:Nat)(acc:mc PC):Except Int (mc PC):=
 if _h:nx<Z ms then
  if(As ms nx).kind==1 then .ok acc
  else match Cj ms nx with
   | .error p=> .error p
   | .ok (c,n)=>if _h2:nx<n then C1 ms n (acc++[c])else .error 0
 else .error 0
def Nh{ms:mc AZ}{a:Nat}{acc:mc PC}(h:a<Z ms)(b:((As ms a).kind==1)=true):C1 ms a acc=.ok acc:=by
 unfold C1;simp[h,b]
def Ka{ms:mc AZ}{a:Nat}{acc:mc PC}{p:Int}(h:a<Z ms)(b:((As ms a).kind==1)=false)(c:Cj ms a=.error p):C1 ms a acc=.error p:=by
 unfold C1;simp[h,b,c]
def QB{ms:mc AZ}{a:Nat}{acc:mc PC}{c:PC}{n:Nat}(h:a<Z ms)(d:((As ms a).kind==1)=false)(b:Cj ms a=.ok (c,n)):C1 ms a acc=C1 ms n (acc++[c]):=by
 have e:=GG b
 conv=>lhs;unfold C1
 simp[h,d,b,e]
def A8(hp:Int)(hn:zA)(hv bv:lN):mc lN:=[X J hp,O hn,hv,bv]
def AH.zP{w:l9}{N:Nat}{cs:mc lN}{t:TypeId}(h:AH w N cs t)(f:Z cs=4)(c v1 b a:lN):AH ((((w.setCell ⟨N,0,Y⟩ c).setCell ⟨N,1,Y⟩ v1).setCell ⟨N,2,Y⟩ b).setCell ⟨N,3,Y⟩ a) N [c,v1,b,a] t:=by
 have d:=(((h.set 0 c).set 1 v1).set 2 b).set 3 a;have e:(((cs.set 0 c).set 1 v1).set 2 b).set 3 a=[c,v1,b,a]:=by
  match cs,f with
  |[_,_,_,_],_=>rfl
 rw[e]at d;exact d
def B3.zP{w:l9}{b:Nat}{d:lN}{ms:mc AZ}{j:Nat}{e:Int}(h:B3 w b d ms j e){N:Nat}(a:N≠b)(c:d.ownBlock≠V N)(i v1 g f:lN):B3 ((((w.setCell ⟨N,0,Y⟩ i).setCell ⟨N,1,Y⟩ v1).setCell ⟨N,2,Y⟩ g).setCell ⟨N,3,Y⟩ f) b d ms j e:=
 (((h.other (p:=⟨N,0,Y⟩) a c i).other (p:=⟨N,1,Y⟩) a c v1).other (p:=⟨N,2,Y⟩) a c g).other (p:=⟨N,3,Y⟩) a c f
def Ac.zP{M:mc Nat}{a w:l9}(h:Ac M a w){N:Nat}(b:N∈M\/a.heap.size<=N)(d v1 c e:lN):Ac M a ((((w.setCell ⟨N,0,Y⟩ d).setCell ⟨N,1,Y⟩ v1).setCell ⟨N,2,Y⟩ c).setCell ⟨N,3,Y⟩ e):=
 (((h.setCell (p:=⟨N,0,Y⟩) b d).setCell (p:=⟨N,1,Y⟩) b v1).setCell (p:=⟨N,2,Y⟩) b c).setCell (p:=⟨N,3,Y⟩) b e
structure Js(w:l9)(base:Nat)(hv bv:lN)(zE:mc AQ)(ls:mc Ks):Prop where
 head:w.ownsRow base 215 2 hv (Z zE) (zE.flatMap Aq)
 body:BP w base bv ls
def Js.kept{M:mc Nat}{w w':l9}{base:Nat}{a c:lN}{d:mc AQ}{ls:mc Ks}(h:Js w base a c d ls)(k:Ac M w w')(b:∀i,i∈M->i<base):Js w' base a c d ls:=⟨Ad h.head k b,h.body.kept k b⟩
def Js.base{w:l9}{base base':Nat}{a c:lN}{b:mc AQ}{ls:mc Ks}(h:Js w base a c b ls)(d:base'<=base):Js w base' a c b ls:=⟨Am h.head d,h.body.base d⟩
def YD(b:Nat)(mv:lN)(ms:mc AZ)(br:Int)(w:l9)(e:Ending)(w':l9):Except Int (PC×Nat)->Prop
 | .ok (c,nx)=>∃ad cp ad2 cp2 zD,e=.returned (.tuple #[.agg (j3 (A8 c.hp c.hn (U ad (Z c.zE) cp) (U ad2 (Z c.body) cp2))),lT true])/\zD.map lW=c.body/\Js w' (w.heap.size+1) (U ad (Z c.zE) cp) (U ad2 (Z c.body) cp2) c.zE zD/\B3 w' b mv ms nx br/\Ac [b] w w'
 | .error p=>∃nx hp hn ad n cp ad2 n2 cp2,e=.returned (.tuple #[.agg (j3 (A8 hp hn (U ad n cp) (U ad2 n2 cp2))),lT false])/\B3 w' b mv ms nx p/\Ac [b] w w'
theorem Up(b:Nat)(E:lN)(ms:mc AZ)(G:Nat)(I:Int)(w:l9)(h:B3 w b E ms G I)(ok:VB ms)(H3:∀i,(As ms i).place<=1000000):
  Calls prog 115 #[.pointer (V ⟨b,0,Y⟩)] w λe H=>YD b E ms I w e H (Cj ms G):=by
 have HO:=Ab ok;have NM:=Ab H3;clear H3;have NS:=h.zO.lt;have K1:∀k,E.ownBlock=V k->k<w.heap.size:=λk hk=>(h.row.lt k hk).2
 have h1:=Ab (h.zI ((me [] w).alloc (j2 (j3 (A8 0 ⟨#[]⟩ (U Y 0 0) (U Y 0 0))) 189)));have hN:=Ab (mf w (A8 0 ⟨#[]⟩ (U Y 0 0) (U Y 0 0)) 189);have EM:=Ab ((me [b] w).alloc (j2 (j3 (A8 0 ⟨#[]⟩ (U Y 0 0) (U Y 0 0))) 189));have H8:(w.alloc (j2 (j3 (A8 0 ⟨#[]⟩ (U Y 0 0) (U Y 0 0))) 189)).heap.size=w.heap.size+1:=by simp
 clear h ok;go_enter func115,ntmps115;go_wp2_with fail
 change Calls _ _ _ (w.alloc (j2 (j3 (A8 0 ⟨#[]⟩ (U Y 0 0) (U Y 0 0))) 189)) _;generalize w.alloc (j2 (j3 (A8 0 ⟨#[]⟩ (U Y 0 0) (U Y 0 0))) 189)=w1 at h1 hN EM H8⊢;obtain⟨N,IS⟩:∃N,w.heap.size=N:=⟨_,rfl⟩;rw[IS]at hN NS H8 K1⊢;have Q:Hid (∀k,N<=k->E.ownBlock≠V k):=λk hk e=>by have:=K1 k e;omega
 clear K1;have M:=Ab IS;clear IS;refine(Nt b E ms G I _ h1 HO).mono ?_;intro e B R;clear h1;cases ht:EW ms G with
 |error q=>
  rw[ht]at R;obtain⟨n9,ap,an,c,M6,d,rfl,h2,k2⟩:=R;have HF:Hid (Cj ms G=.error q):=by show _=_;unfold Cj;rw[ht]
  clear ht;have t:=hN.kept k2 (by simp;omega);have HI:=Ab (EM.trans k2);have c0:=t.cell 0;have c1:=t.cell 1;have c2:=t.cell 2;have c3:=t.cell 3;have nf:=t.frozen;have d0:=λo=>(t.alloc o).cell 0
  have d1:=λo=>(t.alloc o).cell 1
  have d2:=λo=>(t.alloc o).cell 2
  have d3:=λo=>(t.alloc o).cell 3
  have df:=λo=>(t.alloc o).frozen
  simp[A8]at c0 c1 c2 c3 d0 d1 d2 d3;have OH:=t.lt;have q1:¬N=B.heap.size:=by omega
  have q2:¬B.heap.size=N:=by omega
  have y:=Ab h2;have F:=Ab t;clear h2 t k2 hN EM;simp only[AK];go_wp2;rw[HF.out];have Ax:=(F.zP rfl (X J 0) (O ⟨#[]⟩) (U Y 0 0) (U Y 0 0)).alloc (j2 #[X J ap,O an,U c M6 d] 187);refine im (Au (P:=prog) (fn:=Tryz.f115) (p:=2) (u:=3) rfl rfl Ax underlying189 rfl (by kernel_rfl)) rfl ?_;refine⟨n9,0,lU,Y,0,0,Y,0,0,rfl,?_,?_⟩
  .exact(y.zP (by omega) (Q N (by omega)) _ _ _ _).zI ((me [] _).alloc _)
  .have:=Aa M;exact(HI.zP (by right;omega) _ _ _ _).alloc _
 |ok r=>
  obtain⟨⟨p,s,a⟩,n⟩:=r;rw[ht]at R;obtain⟨tv,OB,rfl,NB,Ix,h2,k2⟩:=R;obtain⟨c,d,rfl⟩:=Al Ix;have BS:Hid (Cj ms G=if BM (As ms n) Yv then .error (((As ms n).place:Int)+1)else if BM (As ms n) eo then(match EB ms (n+1) [] with| .error q=> .error q| .ok (g,T)=>MP ms T ⟨p,s,a,g⟩)else MP ms n ⟨p,s,a,[]⟩):=by
   show _=_;unfold Cj;rw[ht]
  clear ht;have HU:B.ownsRow (N+1) 215 2 (U c (Z a) d) (Z a) (a.flatMap Aq):=Am Ix (by omega);have Mo:Hid (∀k,(U c (Z a) d).ownBlock=V k->k<B.heap.size):=λk e=>(HU.lt k e).2
  have t:=hN.kept k2 (by simp;omega);have HI:=EM.trans k2;have NX:=t.lt;have Nj:N+1<=B.heap.size:=by have:=k2.size;omega
  clear Ix NB k2 hN EM H8;have DT:=Ab (h2.zI (((me [] B).alloc (j2 (j3 (AK ⟨p,s,U c (Z a) d⟩)) 187)).alloc (j2 (j3 (A8 p s (U c (Z a) d) (U Y 0 0))) 189)));have HY:=Ab ((t.alloc (j2 (j3 (AK ⟨p,s,U c (Z a) d⟩)) 187)).alloc (j2 (j3 (A8 p s (U c (Z a) d) (U Y 0 0))) 189));have H2:=Ab ((HI.alloc (j2 (j3 (AK ⟨p,s,U c (Z a) d⟩)) 187)).alloc (j2 (j3 (A8 p s (U c (Z a) d) (U Y 0 0))) 189));have HH:Hid (AH ((B.alloc (j2 (j3 (AK ⟨p,s,U c (Z a) d⟩)) 187)).alloc (j2 (j3 (A8 p s (U c (Z a) d) (U Y 0 0))) 189)) (B.heap.size+1) (A8 p s (U c (Z a) d) (U Y 0 0)) 189):=by
   have hh:=mf (B.alloc (j2 (j3 (AK ⟨p,s,U c (Z a) d⟩)) 187)) (A8 p s (U c (Z a) d) (U Y 0 0)) 189;rw[show(B.alloc (j2 (j3 (AK ⟨p,s,U c (Z a) d⟩)) 187)).heap.size=B.heap.size+1 from by simp]at hh
   exact hh
  have H5:=Ab (gU (gU HU (j2 (j3 (AK ⟨p,s,U c (Z a) d⟩)) 187)) (j2 (j3 (A8 p s (U c (Z a) d) (U Y 0 0))) 189));clear h2 t HI HU;simp only[AK];go_wp2_with fail
  change Calls _ _ _ ((B.alloc (j2 (j3 (AK ⟨p,s,U c (Z a) d⟩)) 187)).alloc (j2 (j3 (A8 p s (U c (Z a) d) (U Y 0 0))) 189)) _;generalize(B.alloc (j2 (j3 (AK ⟨p,s,U c (Z a) d⟩)) 187)).alloc (j2 (j3 (A8 p s (U c (Z a) d) (U Y 0 0))) 189)=w3 at DT HY H2 HH H5⊢;obtain⟨C,K9⟩:∃C,B.heap.size+1=C:=⟨_,rfl⟩;have Pl:N+1<C:=by omega
  have Nq:Hid ((U c (Z a) d).ownBlock≠V C):=λe=>by have:=Aa Mo C e;omega
  clear Mo;rw[K9]at HH⊢;clear K9 Nj NX;refine(So b E ms n I Yv _ DT (As ms n) (Bb DT.lt)).mono ?_;rintro e w4 ⟨rfl,k4⟩;have A2:=Ab (DT.zI k4);have HA:=Ab (HY.kept k4 (by simp));have K6:=Ab (HH.kept k4 (by simp));have FT:=Ab (H2.trans (k4.mono (by simp)));have H1:=Ab (Ad H5 k4 (by simp));clear DT HY HH H2 H5 k4;cases hc:BM (As ms n) Yv with
  |true=>
   (have HF:Hid (Cj ms G=.error (((As ms n).place:Int)+1)):=by show _=_;rw[Aa BS,hc];rfl);clear BS hc K6 H1;(go_wp2_with fail);refine(IE b E ms n I _ A2 (As ms n) (Bb A2.lt)).mono ?_;rintro e w5 ⟨rfl,L⟩;have MN:=Ab (A2.zI L);have W:=Ab (HA.kept L (by simp));have S:=Ab (FT.trans (L.mono (by simp)));have H3:(As ms n).place<=1000000:=NM n;clear A2 HA FT L;(go_wp2_with fail);refine(E9 b E ms n I (((As ms n).place:Int)+1) _ MN).mono ?_;rintro e w6 ⟨rfl,h6,A⟩;have m:=W.kept A (by simp;omega);have B0:=Ab (S.trans A);have c0:=m.cell 0;have c1:=m.cell 1;have c2:=m.cell 2;have c3:=m.cell 3;have nf:=m.frozen;simp[A8]at c0 c1 c2 c3;have F:=Ab m;have y:=Ab h6;clear m h6 A MN W S;go_wp2;rw[HF.out];have Ax:=F.zP rfl (X J 0) (O ⟨#[]⟩) (U Y 0 0) (U Y 0 0);refine im (Au (P:=prog) (fn:=Tryz.f115) (p:=2) (u:=3) rfl rfl Ax underlying189 rfl (by kernel_rfl)) rfl ?_;refine⟨n,0,lU,Y,0,0,Y,0,0,rfl,?_,?_⟩
   .exact y.zP (by omega) (Q N (by omega)) _ _ _ _
   .have:=Aa M;exact B0.zP (by right;omega) _ _ _ _
  |false=>
   have Go:=Ab hc;clear hc;(go_wp2_with fail);refine(Gt b E ms n I eo _ A2 (As ms n) (Bb A2.lt) (HO.seen A2.lt eo)).mono ?_;rintro e w5 ⟨rfl,h5,L⟩;have W:=Ab (HA.kept L (by simp;omega));have BA:=Ab (K6.kept L (by simp;omega));have S:=Ab (FT.trans L);have CL:=Ab (Ad H1 L (by simp;omega));clear A2 HA K6 FT H1 L;cases hd:BM (As ms n) eo with
   |false=>
    rw[hd]at h5;simp only[gO,if_false]at h5;(have HD:Hid (Cj ms G=MP ms n ⟨p,s,a,[]⟩):=by show _=_;rw[Aa BS,Aa Go,hd];rfl);have y:=Ab h5;have F:=W;have z:=BA;have HK:=S;have HP:Hid (Js w5 (N+1) (U c (Z a) d) (U Y 0 0) a []):=⟨CL,BP.nil _ _⟩;clear hd h5 BS Go W BA S CL;have EX:=y.lt;have IJ:=Ab (ME b E ms n I Yb _ (y.zI (me [] w5).drew) (As ms n) (Bb EX) (HO.seen EX Yb));have e0:=z.cell 0;have e1:=z.cell 1;have e2:=z.cell 2;have e3:=z.cell 3;simp[A8]at e0 e1 e2 e3;(have HT:Hid (∀l,Ac [b] w5.drew l->AH l N (A8 0 ⟨#[]⟩ (U Y 0 0) (U Y 0 0)) 189/\AH l C (A8 p s (U c (Z a) d) (U Y 0 0)) 189):=λl k=>⟨F.drew.kept k (by simp;omega),z.drew.kept k (by simp;omega)⟩);(have q1:¬C=N:=by omega);(have q2:¬N=C:=by omega);clear y F z;go_wp2_with fail
    go_region_held3 (λH=>H.cell? ⟨C,0,Y⟩=V (X J p)/\H.cell? ⟨C,1,Y⟩=V (O s)/\H.cell? ⟨C,2,Y⟩=V (U c (Z a) d)/\H.cell? ⟨C,3,Y⟩=V (U Y 0 0)) (go_keep) ((go_at_call 163;refine IJ.mono ?_;rintro e l ⟨rfl,j,D⟩;have f:=Aa HT l D;have f0:=f.2.cell 0;have f1:=f.2.cell 1;have f2:=f.2.cell 2;have f3:=f.2.cell 3;have p0:=f.1.cell 0;have p1:=f.1.cell 1;have p2:=f.1.cell 2;have p3:=f.1.cell 3;have pf:=f.1.frozen;simp[A8]at f0 f1 f2 f3 p0 p1 p2 p3;have HZ:=Ab (And.intro j (And.intro D f));clear j D f))
    rename_i HV;clear HV;go_wp2;obtain⟨j,D,f,_⟩:=HZ;have Ax:=f.zP rfl (X J p) (O s) (U c (Z a) d) (U Y 0 0);have FO:Ac [b] w l:=HK.drew.trans D;have K7:Js l (N+1) (U c (Z a) d) (U Y 0 0) a []:=(HP.kept (me [] w5).drew (by simp)).kept D (by simp;omega);refine im (Au (P:=prog) (fn:=Tryz.f115) (p:=2) (u:=3) rfl rfl Ax underlying189 rfl (by kernel_rfl)) rfl ?_;rw[Aa HD];cases hcl:BM (As ms n) Yb with
    |true=>
     rw[hcl]at j;simp only[if_true]at j;unfold MP;rw[hcl];simp only[if_true];refine⟨c,d,Y,0,[],rfl,rfl,?_,?_,?_⟩
     .rw[Aa M];exact K7.kept ((me [N] l).zP (by simp) _ _ _ _) (by simp)
     .exact j.zP (by omega) (Q N (by omega)) _ _ _ _
     .have:=Aa M;exact FO.zP (by right;omega) _ _ _ _
    |false=>
     rw[hcl]at j;simp only[gO,if_false]at j;unfold MP;rw[hcl];simp only[gO,if_false];refine⟨n,p,s,c,Z a,d,Y,_,0,rfl,?_,?_⟩
     .exact j.zP (by omega) (Q N (by omega)) _ _ _ _
     .have:=Aa M;exact FO.zP (by right;omega) _ _ _ _
   |true=>
    rw[hd]at h5;simp only[if_true]at h5;have HG:Hid (Cj ms G=(match EB ms (n+1) [] with| .error q=> .error q| .ok (g,T)=>MP ms T ⟨p,s,a,g⟩)):=by show _=_;rw[Aa BS,Aa Go,hd];rfl
    have M1:=Ab h5;clear hd h5 BS Go;have Nx:=BA.lt;(go_wp2_with fail);refine(RR b E ms (n+1) I _ M1 HO).mono ?_;intro e w6 R;clear M1;cases hb:EB ms (n+1) [] with
    |error q=>
     rw[hb]at R;obtain⟨n9,rfl,h6,A⟩:=R;(have HF:Hid (Cj ms G=.error q):=by show _=_;rw[Aa HG,hb]);have m:=W.kept A (by simp;omega);have A1:=BA.kept A (by simp;omega);have B0:=Ab (S.trans A);have c0:=m.cell 0;have c1:=m.cell 1;have c2:=m.cell 2;have c3:=m.cell 3;have nf:=m.frozen;have d3:=A1.cell 3;have df:=A1.frozen;simp[A8]at c0 c1 c2 c3 d3;(have q1:¬C=N:=by omega);(have q2:¬N=C:=by omega);have F:=Ab m;have y:=Ab h6;clear m A1 h6 A hb HG W BA S CL;go_wp2;rw[HF.out];have Ax:=(F.zB ⟨C,3,Y⟩ (by simp;omega) (U Y 0 0)).zP rfl (X J 0) (O ⟨#[]⟩) (U Y 0 0) (U Y 0 0);refine im (Au (P:=prog) (fn:=Tryz.f115) (p:=2) (u:=3) rfl rfl Ax underlying189 rfl (by kernel_rfl)) rfl ?_;refine⟨n9,0,lU,Y,0,0,Y,0,0,rfl,?_,?_⟩
     .exact(y.other (p:=⟨C,3,Y⟩) (by simp;omega) (Q C (by omega)) _).zP (by omega) (Q N (by omega)) _ _ _ _
     .have:=Aa M;exact(B0.setCell (p:=⟨C,3,Y⟩) (by right;simp;omega) _).zP (by right;omega) _ _ _ _
    |ok r=>
     obtain⟨g,T⟩:=r;rw[hb]at R;obtain⟨x,v,Ha,rfl,L0,LB,h6,A⟩:=R;(have HD:Hid (Cj ms G=MP ms T ⟨p,s,a,g⟩):=by show _=_;rw[Aa HG,hb]);have m:=W.kept A (by simp;omega);have A1:=BA.kept A (by simp;omega);have B0:=S.trans A;have M0:=Ad CL A (by simp;omega);have d3:=A1.cell 3;have df:=A1.frozen;simp[A8]at d3;have MB:=Ab m;have K8:=Ab A1;have MY:=Ab B0;have LS:=Ab M0;have K2:=Ab (And.intro L0 LB);have LL:=Ab h6;clear m A1 B0 M0 L0 LB h6 A hb HG W BA S CL;(go_wp2_with fail);have Op:C<w5.heap.size:=Nx;have y:=Ab (LL.other (p:=⟨C,3,Y⟩) (by simp;omega) (Q C (by omega)) (U x (Z g) v));have F:=Ab (MB.zB ⟨C,3,Y⟩ (by simp;omega) (U x (Z g) v));have z:Hid (AH (w6.setCell ⟨C,3,Y⟩ (U x (Z g) v)) C (A8 p s (U c (Z a) d) (U x (Z g) v)) 189):=K8.set 3 _;have HK:Hid (Ac [b] w (w6.setCell ⟨C,3,Y⟩ (U x (Z g) v))):=by
      have:=Aa M;exact MY.setCell (p:=⟨C,3,Y⟩) (by right;simp;omega) _
     have HP:Hid (Js (w6.setCell ⟨C,3,Y⟩ (U x (Z g) v)) (N+1) (U c (Z a) d) (U x (Z g) v) a Ha):=by
      have kC:Ac [C] w6 (w6.setCell ⟨C,3,Y⟩ (U x (Z g) v)):=(me [C] w6).setCell (by simp) _;refine⟨?_,(K2.2.kept kC (by simp;omega)).base (by omega)⟩;exact Ag LS (p:=⟨C,3,Y⟩) Nq _
     have HM:Hid (Ha.map lW=g):=K2.1;clear LL MB K8 MY LS K2 d3 df;generalize w6.setCell ⟨C,3,Y⟩ (U x (Z g) v)=w7 at y F z HK HP⊢;have EX:=y.lt;have IJ:=Ab (ME b E ms T I Yb _ (y.zI (me [] w7).drew) (As ms T) (Bb EX) (HO.seen EX Yb));have e0:=z.cell 0;have e1:=z.cell 1;have e2:=z.cell 2;have e3:=z.cell 3;simp[A8]at e0 e1 e2 e3;(have HT:Hid (∀l,Ac [b] w7.drew l->AH l N (A8 0 ⟨#[]⟩ (U Y 0 0) (U Y 0 0)) 189/\AH l C (A8 p s (U c (Z a) d) (U x (Z g) v)) 189):=λl k=>⟨F.drew.kept k (by simp;omega),z.drew.kept k (by simp;omega)⟩);(have q1:¬C=N:=by omega);(have q2:¬N=C:=by omega);clear y F z;go_wp2_with fail
     go_region_held3 (λH=>H.cell? ⟨C,0,Y⟩=V (X J p)/\H.cell? ⟨C,1,Y⟩=V (O s)/\H.cell? ⟨C,2,Y⟩=V (U c (Z a) d)/\H.cell? ⟨C,3,Y⟩=V (U x (Z g) v)) (go_keep) ((go_at_call 163;refine IJ.mono ?_;rintro e l ⟨rfl,j,D⟩;have f:=Aa HT l D;have f0:=f.2.cell 0;have f1:=f.2.cell 1;have f2:=f.2.cell 2;have f3:=f.2.cell 3;have p0:=f.1.cell 0;have p1:=f.1.cell 1;have p2:=f.1.cell 2;have p3:=f.1.cell 3;have pf:=f.1.frozen;simp[A8]at f0 f1 f2 f3 p0 p1 p2 p3;have HZ:=Ab (And.intro j (And.intro D f));clear j D f))
     rename_i HV;clear HV;go_wp2;obtain⟨j,D,f,_⟩:=HZ;have Ax:=f.zP rfl (X J p) (O s) (U c (Z a) d) (U x (Z g) v);have FO:Ac [b] w l:=HK.drew.trans D;have K7:Js l (N+1) (U c (Z a) d) (U x (Z g) v) a Ha:=(HP.kept (me [] w7).drew (by simp)).kept D (by simp;omega);refine im (Au (P:=prog) (fn:=Tryz.f115) (p:=2) (u:=3) rfl rfl Ax underlying189 rfl (by kernel_rfl)) rfl ?_;rw[Aa HD];cases hcl:BM (As ms T) Yb with
     |true=>
      rw[hcl]at j;simp only[if_true]at j;unfold MP;rw[hcl];simp only[if_true];refine⟨c,d,x,v,Ha,rfl,HM,?_,?_,?_⟩
      .rw[Aa M];exact K7.kept ((me [N] l).zP (by simp) _ _ _ _) (by simp)
      .exact j.zP (by omega) (Q N (by omega)) _ _ _ _
      .have:=Aa M;exact FO.zP (by right;omega) _ _ _ _
     |false=>
      rw[hcl]at j;simp only[gO,if_false]at j;unfold MP;rw[hcl];simp only[gO,if_false];refine⟨T,p,s,c,Z a,d,x,_,v,rfl,?_,?_⟩
      .exact j.zP (by omega) (Q N (by omega)) _ _ _ _
      .have:=Aa M;exact FO.zP (by right;omega) _ _ _ _
