import Derived.Test.YtoihbhenbmffcaaGreatDoorYAE
import Derived.Test.YtoihbhenbmffcaaGreatDoorYAC
set_option linter.all false
set_option maxHeartbeats 0
open List renaming length->Z,toArray->j2
open Option renaming none->Y,some->V
open Go.Value renaming slice->U,int->X,string->O,bool->jJ
open Go.IntKind renaming i64->J
open Go.Obj renaming cells->j1
open Go renaming World->j7,Value->j8
open ByteArray renaming empty->jK
open Prod renaming fst->jM
namespace Go.Proofs.YtoihbhenbmffcaaGreatDoor
open Go.RowKit Go.Proofs.Tryz
theorem Tryz.yP:(Tryz.prog.info? 217).map (λi=>(i.zero,i.size,i.bytes))=V (V (.agg #[X J 0,X J 0,X J 0,O ⟨#[]⟩,U Y 0 0,X .i32 0,O ⟨#[]⟩,X .i32 0,O ⟨#[]⟩]),9,112):=by kernel_rfl
structure PL where
 place:Int
 sort:Int
 ap:Int
 an:g0
 ts:List AO
 l:AO
 r:AO
def Jl:Zh->PL
 | .inl (pl,so,p,s,ts)=>⟨pl,so,p,s,ts,AD,AD⟩
 | .inr c=>⟨c.place,c.sort,0,jK,[],c.left,c.right⟩
abbrev Oi:=PL×j8
def Aw(p:Oi):List j8:=[X J p.1.place,X J p.1.sort,X J p.1.ap,O p.1.an,p.2,X .i32 p.1.l.v,O p.1.l.s,X .i32 p.1.r.v,O p.1.r.s]
def JG(w:j7)(base:Nat)(p:Oi):Prop:=w.ownsRow base 215 2 p.2 (Z p.1.ts) (p.1.ts.flatMap Aq)
def JG.zU{M:List Nat}{w w':j7}{base:Nat}{p:Oi}(h:JG w base p)(k:Ac M w w')(a:∀i,p.2.ownBlock=V i->i∉M):JG w' base p:=Al h k a
def JG.kept{M:List Nat}{w w':j7}{base:Nat}{p:Oi}(h:JG w base p)(k:Ac M w w')(a:∀i,i∈M->i<base):JG w' base p:=Ad h k a
def Wh.uni{b:Nat}{q:j8}{g:List AZ}{m:Int}{w w':j7}{e:Ending}{t n:Nat}{l:Zh}(d:G6 g t=.ok (l,n))(h:Wh b q g m w e w' (.ok (l,n))):
  ∃i f,e=.returned (.tuple #[.agg (j2 (Aw (Jl l,U i (Z (Jl l).ts) f))),jJ true])/\JG w' w.heap.size (Jl l,U i (Z (Jl l).ts) f)/\Cm w' b q g n m/\Ac [b] w w':=by
 cases l with
 |inl a=>
  obtain⟨E,y,p,s,G⟩:=a;obtain⟨A,z,rfl,u,o,k,j⟩:=h;obtain⟨i,f,rfl⟩:=Ak o;exact⟨i,f,rfl,Am o u,k,j⟩
 |inr c=>
  have x:G4 g t=.ok (c,n):=by
   unfold G6 at d;split at d
   .split at d<;>simp at d
   .split at d
    .split at d<;>simp at d
    .split at d
     .simp at d
     .rename_i v;simp only[fK,fo,Sum.inr.injEq]at d;rw[v];simp[d]
  have r:=Rq x;obtain⟨f,B,C,F,D⟩:=c;simp only at r;subst r;obtain⟨rfl,k,j⟩:=h;exact⟨Y,0,rfl,eU _ _ _ _,k,j⟩
def Pp{b:List AZ}:∀(k a:Nat) (d:List AO) {c:List AO} {n:Nat},Z b-a<=k->F4 b a d=.ok (c,n)->a<n
 |k,a,d,c,n,hk,h=>by
  unfold F4 at h;split at h
  .rename_i e;split at h
   .cases h
   .split at h
    .match k with
     |0=>omega
     |k+1=>have:=Pp k (a+2) _ (by omega) h;omega
    .split at h
     .simp only[fK,fo]at h;omega
     .cases h
  .cases h
def Lb{c:List AZ}{b:Nat}{a:Nat×g0×List AO}{n:Nat}(h:EF c b=.ok (a,n)):b<n:=by
 unfold EF at h;split at h
 .split at h
  .split at h
   .cases h
   .rename_i d;simp only[fK,fo]at h;have:=Pp _ _ _ (eM _) d;omega
  .cases h
 .cases h
def Yo{b:List AZ}{a:Nat}{l:Zd}{n:Nat}(h:G4 b a=.ok (l,n)):a<n:=by
 unfold G4 at h;split at h
 .cases h
 .rename_i d;have e:=Fu d;split at h
  .cases h
  .split at h
   .cases h
   .rename_i c;have f:=Fu c;simp only[fK,fo]at h;omega
def Im{c:List AZ}{b:Nat}{l:Zh}{n:Nat}(h:G6 c b=.ok (l,n)):b<n:=by
 unfold G6 at h;split at h
 .split at h
  .cases h
  .rename_i a;have:=Lb a;simp only[fK,fo]at h;omega
 .split at h
  .split at h
   .cases h
   .rename_i a;have:=Lb a;simp only[fK,fo]at h;omega
  .split at h
   .cases h
   .rename_i a;have:=Yo a;simp only[fK,fo]at h;omega
def Fl(ms:List AZ)(nx:Nat)(acc:List PL):Except Int (List PL×Nat):=
 if _h:nx<Z ms then
  match G6 ms nx with
  | .error p=> .error p
  | .ok (l,n)=>
   if _h2:nx<n then
    if BD (Au ms n) Hl then Fl ms (n+1) (acc++[Jl l])else .ok (acc++[Jl l],n)
   else .error 0
 else .error 0
def Hd{a:List AZ}{b:Nat}{acc:List PL}{p:Int}(h:b<Z a)(c:G6 a b=.error p):Fl a b acc=.error p:=by
 unfold Fl;simp[h,c]
def Mj{a:List AZ}{b:Nat}{acc:List PL}{l:Zh}{n:Nat}(h:b<Z a)(c:G6 a b=.ok (l,n)):
  Fl a b acc=if BD (Au a n) Hl then Fl a (n+1) (acc++[Jl l])else .ok (acc++[Jl l],n):=by
 have d:=Im c
 conv=>lhs;unfold Fl
 simp[h,c,d]
structure CE(w:j7)(base:Nat)(v:j8)(ls:List Oi):Prop where
 row:w.ownsRow base 217 9 v (Z ls) (ls.flatMap Aw)
 each:∀p∈ls,JG w base p/\B1 p.2 v
def CE.kept{M:List Nat}{w w':j7}{base:Nat}{v:j8}{ls:List Oi}(h:CE w base v ls)(k:Ac M w w')(b:∀i,i∈M->i<base):CE w' base v ls:=
 ⟨Ad h.row k b,λp a=>⟨(h.each p a).1.kept k b,(h.each p a).2⟩⟩
def CE.base{w:j7}{base base':Nat}{v:j8}{ls:List Oi}(h:CE w base v ls)(b:base'<=base):CE w base' v ls:=
 ⟨Am h.row b,λp a=>⟨Am (h.each p a).1 b,(h.each p a).2⟩⟩
def CE.nil(w:j7)(base:Nat):CE w base (U Y 0 0) []:=⟨eU _ _ _ _,λp a=>by simp at a⟩
def bL(b:Nat)(mv:j8)(ms:List AZ)(br:Int)(w:j7)(e:Ending)(w':j7):Except Int (List PL×Nat)->Prop
 | .ok (ls,nx)=>∃ad cp zC,e=.returned (.tuple #[U ad (Z ls) cp,jJ true])/\zC.map jM=ls/\CE w' w.heap.size (U ad (Z ls) cp) zC/\Cm w' b mv ms nx br/\Ac [b] w w'
 | .error p=>∃nx,e=.returned (.tuple #[U Y 0 0,jJ false])/\Cm w' b mv ms nx p/\Ac [b] w w'
set_option maxRecDepth 100000
theorem XQ(b:Nat)(mv:j8)(ms:List AZ)(nx:Nat)(br:Int)(w:j7)(h:Cm w b mv ms nx br)(ok:Us ms):
  Calls prog 133 #[.pointer (V ⟨b,0,Y⟩)] w λe w'=>bL b mv ms br w e w' (Fl ms nx []):=by
 obtain⟨i0,hi0,hz0,hz1,hz2⟩:=fC Tryz.yP;obtain⟨R,hR⟩:∃R,Fl ms nx []=R:=⟨_,rfl⟩;rw[hR];have HRr:=Ab hR;have HO:=Ab ok;have hbw:=h.zO.lt;have hml:=h.len;have HMB:Hid (∀k,w.heap.size<=k->mv.ownBlock≠V k):=λk hk e=>by have:=(h.row.lt k e).2;omega
 have h0:=Ab h;clear hR ok h;go_enter func133,ntmps133;go_wp2_with fail
 go_loopg [4] (Z ms-nx) (λgk o wr=>∃(j:Nat) (acc:List Oi) (ad:Option Addr) (cp:Nat),o=U ad (Z acc) cp/\gk=Z ms-j/\Hid (Fl ms j (acc.map jM)=R)/\Hid (Cm wr b mv ms j br)/\Hid (CE wr w.heap.size (U ad (Z acc) cp) acc)/\Hid (Ac [b] w wr)/\Z acc<=j)
 case atStart=>exact⟨nx,[],Y,0,rfl,rfl,HRr,h0,CE.nil _ _,Ac.refl _ _,by simp⟩
 case round=>
  clear h0 HRr;obtain⟨j,acc,ad,cp,rfl,hgk,HL,HR,HB,hK,hal⟩:=hrel;have HG:=Ab hgk;clear hgk;have hjl:=HR.lt;have hKs:=hK.size;go_wp2_with fail
  refine(aC b mv ms j br _ HR HO).mono ?_;intro e w6 hout;cases ht:G6 ms j with
  |error q=>
   rw[ht]at hout;obtain⟨n9,l,⟨ad9,n8,cp9,htv⟩,rfl,h6,k6⟩:=hout;(have HF:Hid (R=.error q):=by show _=_;rw[<-Aa HL];exact Hd hjl ht);have hK6:=Ab (hK.trans k6);have HR6:=Ab h6;clear k6 ht HR HB hK HL h6;obtain⟨lp,ls,⟨la,lan,ltv⟩,ll,lr⟩:=l;simp only at htv;subst htv;simp only[Ay];go_wp2;go_ret2;rw[HF.out];exact⟨n9,rfl,HR6.zJ ((Ac.refl [] _).alloc _),hK6.alloc _⟩
  |ok r=>
   obtain⟨t,n1⟩:=r;rw[ht]at hout;have hn1:=Im ht;obtain⟨ad6,cp6,rfl,hp6,h6,k6⟩:=hout.uni ht;have HT:=Ab (Mj (acc:=acc.map jM) hjl ht);clear hout ht;generalize Jl t=p at hp6 HT⊢;clear t;have hk6s:=k6.size;have hrow6:=Ad HB.row k6 (by simp;omega);(have HB6:Hid (∀q∈acc,JG w6 w.heap.size q/\B1 q.2 (U ad (Z acc) cp)):=λq hq=>⟨(HB.each q hq).1.kept k6 (by simp;omega),(HB.each q hq).2⟩);have HAP:Hid (B1 (U ad6 (Z p.ts) cp6) (U ad (Z acc) cp)):=λk hk he=>by
    have:=(hp6.lt k hk).1;have:=(HB.row.lt k he).2;omega
   have HP6:=Ab hp6;have hK6:=Ab (hK.trans k6);have HR6:=Ab h6;have hn1l:=h6.lt;clear hp6 h6 k6 HB hK HR;have hnew:((w6.alloc (j1 (j2 (Aw (p,U ad6 (Z p.ts) cp6))) 217)).alloc (j1 (j2 (Aw (p,U ad6 (Z p.ts) cp6))) 217)).heap[w6.heap.size+1]?=V (j1 (j2 (Aw (p,U ad6 (Z p.ts) cp6))) 217 (0,0)):=by
    have hh:=fe (w6.alloc (j1 (j2 (Aw (p,U ad6 (Z p.ts) cp6))) 217)) (j1 (j2 (Aw (p,U ad6 (Z p.ts) cp6))) 217);rw[show(w6.alloc (j1 (j2 (Aw (p,U ad6 (Z p.ts) cp6))) 217)).heap.size=w6.heap.size+1 from by simp]at hh
    exact hh
   have hown8:=eC (eC hrow6 (j1 (j2 (Aw (p,U ad6 (Z p.ts) cp6))) 217)) (j1 (j2 (Aw (p,U ad6 (Z p.ts) cp6))) 217);(have hal2:Z acc<=1000:=by omega);simp only[Aw];go_wp2_with (at_builtin;refine eP _ rfl (.tmp 14) (.tmp 16) _ rfl w.heap.size 217 i0 _ 9 112 underlying97 hi0 hz0 hz1 hz2 rfl (by omega) (U ad (Z acc) cp) (Z acc) (acc.flatMap Aw) rfl hown8 ⟨w6.heap.size+1,0,Y⟩ 1 1 (Aw (p,U ad6 (Z p.ts) cp6)) rfl rfl (eS (cs:=j2 (Aw (p,U ad6 (Z p.ts) cp6))) (t:=217) (fr:=(0,0)) hnew) (by simp[Value.oneCell',Aw]) (by omega) (by unfold maxLen;omega) (by omega) (by simp;omega) (w6.heap.size+1+1) (by simp) ?_;intro g1 cp1 w9 ho1 hg1 ha1 hl1)
   have kr:Ac (U ad (Z acc) cp).ownBlock.toList w6 w9:=(((Ac.refl _ w6).alloc _).alloc _).grown hg1 (λk hk=>Or.inl (by simp[hk]));(have hrw:∀i∈(U ad (Z acc) cp).ownBlock.toList,w.heap.size<=i:=λi hi=>(hrow6.lt i (by simpa using hi)).1);have hmb6:mv.ownBlock≠Y->∀k,mv.ownBlock=V k->k<w.heap.size:=λ_ k hk=>by
    by_cases hq:k<w.heap.size
    .exact hq
    .exact absurd hk (HMB k (by omega))
   have hR9:Cm w9 b mv ms n1 br:=⟨HR6.zO.kept kr (λhm=>by have:=hrw b hm;omega),Al HR6.row kr (λi hi hm=>by have:=hrw i hm;exact absurd hi (HMB i this)),HR6.ap,HR6.lt,HR6.len⟩;have hK9:Ac [b] w w9:=hK6.trans' kr (λi hi=>Or.inr (by have:=hrw i hi;omega));have hs9:w.heap.size<=w9.heap.size:=hK9.size;have HIN:Hid (CE w9 w.heap.size (U (V ⟨g1,0,Y⟩) (Z acc+1) cp1) (acc++[(p,U ad6 (Z p.ts) cp6)])):=by
    refine⟨by simpa using ho1,?_⟩;intro q hq;rcases eG.1 hq with hq|hq
    .obtain⟨h1,h2⟩:=HB6 q hq;exact⟨h1.zU kr (λi hi hm=>h2 i hi (by simpa using hm)),B1.zd h2 h1 ha1 (by omega)⟩
    .simp only[ex]at hq;subst hq;have h1:JG w6 w.heap.size (p,U ad6 (Z p.ts) cp6):=Am HP6 (by omega);exact⟨h1.zU kr (λi hi hm=>HAP i hi (by simpa using hm)),B1.zd HAP h1 ha1 (by omega)⟩
   have HR9:=Ab hR9;have HK9:=Ab hK9;have hg1w:w.heap.size<=g1:=(ho1.lt g1 rfl).1;clear kr hrw hmb6 hR9 hK9 hg1 ha1 hl1 ho1 hnew hown8 hrow6 HB6 HAP HP6 hK6 HR6;refine(Gg b mv ms n1 br Hl _ HR9 (Au ms n1) (Bg hn1l) (HO.seen hn1l Hl)).mono ?_;rintro e w11 ⟨rfl,h11,k11⟩;have HB11:=Ab (HIN.kept k11 (by simp;omega));have hK11:=Ab (HK9.trans k11);clear k11 HIN HK9 HR9;cases hs:BD (Au ms n1) Hl with
   |true=>
    rw[hs]at h11;simp only[if_true]at h11;have HL2:Hid (Fl ms (n1+1) ((acc++[(p,(U ad6 (Z p.ts) cp6:j8))]).map jM)=R):=by
     show _=_;rw[<-Aa HL,Aa HT,hs];simp
    have HR11:=Ab h11;clear h11 hs HL HT;go_wp2_with fail
    go_roundg (Z ms-(n1+1))
    case measure=>have:=Aa HG;omega
    case rel=>exact⟨n1+1,acc++[(p,U ad6 (Z p.ts) cp6)],V ⟨g1,0,Y⟩,cp1,by simp,rfl,HL2,HR11,by simpa using HB11,hK11,by simp;omega⟩
   |false=>
    rw[hs]at h11;simp only[ev,if_false]at h11;have HF:Hid (R=.ok (acc.map jM++[p],n1)):=by
     show _=_;rw[<-Aa HL,Aa HT,hs];simp
    have HR11:=Ab h11;clear h11 hs HL HT;go_wp2;go_ret2;rw[HF.out];exact⟨V ⟨g1,0,Y⟩,cp1,acc++[(p,U ad6 (Z p.ts) cp6)],by simp,by simp,by simpa using(Aa HB11),Aa HR11,Aa hK11⟩
def Xl:g0:=⟨#[58]⟩
def cP:g0:=⟨#[58,45]⟩
def WZ:g0:=⟨#[46]⟩
structure PC where
 hp:Int
 hn:g0
 zD:List AO
 body:List PL
def My(ms:List AZ)(n:Nat)(c:PC):Except Int (PC×Nat):=if BD (Au ms n) WZ then .ok (c,n+1)else .error (Au ms n).place
def Cu(ms:List AZ)(nx:Nat):Except Int (PC×Nat):=
 match EF ms nx with
 | .error p=> .error p
 | .ok ((p,s,ts),n)=>
  if BD (Au ms n) Xl then .error (((Au ms n).place:Int)+1)
  else if BD (Au ms n) cP then
   match Fl ms (n+1) [] with
   | .error q=> .error q
   | .ok (ls,n2)=>My ms n2 ⟨p,s,ts,ls⟩
  else My ms n ⟨p,s,ts,[]⟩
def OX{b:List AZ}:∀(k a:Nat) (d:List PL) {e:List PL} {n:Nat},Z b-a<=k->Fl b a d=.ok (e,n)->a<n
 |k,a,d,e,n,hk,h=>by
  by_cases c:a<Z b
  .cases hl:G6 b a with
   |error p=>rw[Hd c hl]at h;cases h
   |ok r=>
    obtain⟨l,f⟩:=r;have g:=Im hl;rw[Mj c hl]at h;split at h
    .match k with
     |0=>omega
     |k+1=>have:=OX k (f+1) _ (by omega) h;omega
    .simp only[fK,fo]at h;omega
  .unfold Fl at h;rw[dif_neg c]at h;cases h
def Q2{a:List AZ}{n m:Nat}{c b:PC}(h:My a n c=.ok (b,m)):m=n+1:=by
 unfold My at h;split at h
 .simp only[fK,fo]at h;exact h.2.symm
 .cases h
def Gt{b:List AZ}{a n:Nat}{c:PC}(h:Cu b a=.ok (c,n)):a<n:=by
 unfold Cu at h;split at h
 .cases h
 .rename_i e;have g:=Lb e;split at h
  .cases h
  .split at h
   .split at h
    .cases h
    .rename_i d;have i:=OX _ _ _ (eM _) d;have f:=Q2 h;omega
   .have f:=Q2 h;omega
def C4(ms:List AZ)(nx:Nat)(acc:List PC):Except Int (List PC):=
 if _h:nx<Z ms then
  if(Au ms nx).kind==1 then .ok acc
  else match Cu ms nx with
   | .error p=> .error p
   | .ok (c,n)=>if _h2:nx<n then C4 ms n (acc++[c])else .error 0
 else .error 0
def MR{a:List AZ}{b:Nat}{acc:List PC}(h:b<Z a)(c:((Au a b).kind==1)=true):C4 a b acc=.ok acc:=by
 unfold C4;simp[h,c]
def JO{a:List AZ}{b:Nat}{acc:List PC}{p:Int}(h:b<Z a)(c:((Au a b).kind==1)=false)(d:Cu a b=.error p):C4 a b acc=.error p:=by
 unfold C4;simp[h,c,d]
def PS{a:List AZ}{b:Nat}{acc:List PC}{c:PC}{n:Nat}(h:b<Z a)(e:((Au a b).kind==1)=false)(d:Cu a b=.ok (c,n)):C4 a b acc=C4 a n (acc++[c]):=by
 have f:=Gt d
 conv=>lhs;unfold C4
 simp[h,e,d,f]
def A6(hp:Int)(hn:g0)(hv bv:j8):List j8:=[X J hp,O hn,hv,bv]
def AI.zP{w:j7}{N:Nat}{cs:List j8}{t:TypeId}(h:AI w N cs t)(f:Z cs=4)(c v1 b a:j8):AI ((((w.setCell ⟨N,0,Y⟩ c).setCell ⟨N,1,Y⟩ v1).setCell ⟨N,2,Y⟩ b).setCell ⟨N,3,Y⟩ a) N [c,v1,b,a] t:=by
 have d:=(((h.set 0 c).set 1 v1).set 2 b).set 3 a;have e:(((cs.set 0 c).set 1 v1).set 2 b).set 3 a=[c,v1,b,a]:=by
  match cs,f with
  |[_,_,_,_],_=>rfl
 rw[e]at d;exact d
def Cm.zP{w:j7}{b:Nat}{d:j8}{e:List AZ}{k:Nat}{f:Int}(h:Cm w b d e k f){N:Nat}(a:N≠b)(c:d.ownBlock≠V N)(j v1 i g:j8):Cm ((((w.setCell ⟨N,0,Y⟩ j).setCell ⟨N,1,Y⟩ v1).setCell ⟨N,2,Y⟩ i).setCell ⟨N,3,Y⟩ g) b d e k f:=
 (((h.other (p:=⟨N,0,Y⟩) a c j).other (p:=⟨N,1,Y⟩) a c v1).other (p:=⟨N,2,Y⟩) a c i).other (p:=⟨N,3,Y⟩) a c g
def Ac.zP{M:List Nat}{a w:j7}(h:Ac M a w){N:Nat}(b:N∈M\/a.heap.size<=N)(d v1 c e:j8):Ac M a ((((w.setCell ⟨N,0,Y⟩ d).setCell ⟨N,1,Y⟩ v1).setCell ⟨N,2,Y⟩ c).setCell ⟨N,3,Y⟩ e):=
 (((h.setCell (p:=⟨N,0,Y⟩) b d).setCell (p:=⟨N,1,Y⟩) b v1).setCell (p:=⟨N,2,Y⟩) b c).setCell (p:=⟨N,3,Y⟩) b e
structure Jb(w:j7)(base:Nat)(hv bv:j8)(zD:List AO)(ls:List Oi):Prop where
 head:w.ownsRow base 215 2 hv (Z zD) (zD.flatMap Aq)
 body:CE w base bv ls
def Jb.kept{M:List Nat}{w w':j7}{base:Nat}{a c:j8}{d:List AO}{ls:List Oi}(h:Jb w base a c d ls)(k:Ac M w w')(b:∀i,i∈M->i<base):Jb w' base a c d ls:=⟨Ad h.head k b,h.body.kept k b⟩
def Jb.base{w:j7}{base base':Nat}{a c:j8}{b:List AO}{ls:List Oi}(h:Jb w base a c b ls)(d:base'<=base):Jb w base' a c b ls:=⟨Am h.head d,h.body.base d⟩
def Xv(b:Nat)(mv:j8)(ms:List AZ)(br:Int)(w:j7)(e:Ending)(w':j7):Except Int (PC×Nat)->Prop
 | .ok (c,nx)=>∃ad cp ad2 cp2 zC,e=.returned (.tuple #[.agg (j2 (A6 c.hp c.hn (U ad (Z c.zD) cp) (U ad2 (Z c.body) cp2))),jJ true])/\zC.map jM=c.body/\Jb w' (w.heap.size+1) (U ad (Z c.zD) cp) (U ad2 (Z c.body) cp2) c.zD zC/\Cm w' b mv ms nx br/\Ac [b] w w'
 | .error p=>∃nx hp hn ad n cp ad2 n2 cp2,e=.returned (.tuple #[.agg (j2 (A6 hp hn (U ad n cp) (U ad2 n2 cp2))),jJ false])/\Cm w' b mv ms nx p/\Ac [b] w w'
theorem Tl(b:Nat)(F:j8)(c:List AZ)(H:Nat)(L:Int)(w:j7)(h:Cm w b F c H L)(ok:Us c)(H1:∀i,(Au c i).place<=1000000):
  Calls prog 115 #[.pointer (V ⟨b,0,Y⟩)] w λe I=>Xv b F c L w e I (Cu c H):=by
 have HO:=Ab ok;have Nx:=Ab H1;clear H1;have NB:=h.zO.lt;have KB:∀k,F.ownBlock=V k->k<w.heap.size:=λk hk=>(h.row.lt k hk).2
 have h1:=Ab (h.zJ ((Ac.refl [] w).alloc (j1 (j2 (A6 0 ⟨#[]⟩ (U Y 0 0) (U Y 0 0))) 189)));have hN:=Ab (AI.new w (A6 0 ⟨#[]⟩ (U Y 0 0) (U Y 0 0)) 189);have EM:=Ab ((Ac.refl [b] w).alloc (j1 (j2 (A6 0 ⟨#[]⟩ (U Y 0 0) (U Y 0 0))) 189));have H6:(w.alloc (j1 (j2 (A6 0 ⟨#[]⟩ (U Y 0 0) (U Y 0 0))) 189)).heap.size=w.heap.size+1:=by simp
 clear h ok;go_enter func115,ntmps115;go_wp2_with fail
 change Calls _ _ _ (w.alloc (j1 (j2 (A6 0 ⟨#[]⟩ (U Y 0 0) (U Y 0 0))) 189)) _;generalize w.alloc (j1 (j2 (A6 0 ⟨#[]⟩ (U Y 0 0) (U Y 0 0))) 189)=w1 at h1 hN EM H6⊢;obtain⟨N,IJ⟩:∃N,w.heap.size=N:=⟨_,rfl⟩;rw[IJ]at hN NB H6 KB⊢;have R:Hid (∀k,N<=k->F.ownBlock≠V k):=λk hk e=>by have:=KB k e;omega
 clear KB;have Q:=Ab IJ;clear IJ;refine(M4 b F c H L _ h1 HO).mono ?_;intro e D S;clear h1;cases ht:EF c H with
 |error q=>
  rw[ht]at S;obtain⟨n9,ap,an,d,M1,f,rfl,h2,k2⟩:=S;have HF:Hid (Cu c H=.error q):=by show _=_;unfold Cu;rw[ht]
  clear ht;have v:=hN.kept k2 (by simp;omega);have HG:=Ab (EM.trans k2);have c0:=v.cell 0;have c1:=v.cell 1;have c2:=v.cell 2;have c3:=v.cell 3;have nf:=v.frozen;have d0:=λo=>(v.alloc o).cell 0
  have d1:=λo=>(v.alloc o).cell 1
  have d2:=λo=>(v.alloc o).cell 2
  have d3:=λo=>(v.alloc o).cell 3
  have df:=λo=>(v.alloc o).frozen
  simp[A6]at c0 c1 c2 c3 d0 d1 d2 d3;have N4:=v.lt;have q1:¬N=D.heap.size:=by omega
  have q2:¬D.heap.size=N:=by omega
  have z:=Ab h2;have G:=Ab v;clear h2 v k2 hN EM;simp only[AL];go_wp2;rw[HF.out];have AB:=(G.zP rfl (X J 0) (O ⟨#[]⟩) (U Y 0 0) (U Y 0 0)).alloc (j1 #[X J ap,O an,U d M1 f] 187);refine eX (Ar (P:=prog) (fn:=Tryz.f115) (p:=2) (u:=3) rfl rfl AB underlying189 rfl (by kernel_rfl)) rfl ?_;refine⟨n9,0,jK,Y,0,0,Y,0,0,rfl,?_,?_⟩
  .exact(z.zP (by omega) (R N (by omega)) _ _ _ _).zJ ((Ac.refl [] _).alloc _)
  .have:=Aa Q;exact(HG.zP (by right;omega) _ _ _ _).alloc _
 |ok r=>
  obtain⟨⟨p,s,a⟩,n⟩:=r;rw[ht]at S;obtain⟨tv,N2,rfl,Nj,H9,h2,k2⟩:=S;obtain⟨d,f,rfl⟩:=Ak H9;have BS:Hid (Cu c H=if BD (Au c n) Xl then .error (((Au c n).place:Int)+1)else if BD (Au c n) cP then(match Fl c (n+1) [] with| .error q=> .error q| .ok (j,W)=>My c W ⟨p,s,a,j⟩)else My c n ⟨p,s,a,[]⟩):=by
   show _=_;unfold Cu;rw[ht]
  clear ht;have HS:D.ownsRow (N+1) 215 2 (U d (Z a) f) (Z a) (a.flatMap Aq):=Am H9 (by omega);have LM:Hid (∀k,(U d (Z a) f).ownBlock=V k->k<D.heap.size):=λk e=>(HS.lt k e).2
  have v:=hN.kept k2 (by simp;omega);have HG:=EM.trans k2;have NM:=v.lt;have M3:N+1<=D.heap.size:=by have:=k2.size;omega
  clear H9 Nj k2 hN EM H6;have DT:=Ab (h2.zJ (((Ac.refl [] D).alloc (j1 (j2 (AL ⟨p,s,U d (Z a) f⟩)) 187)).alloc (j1 (j2 (A6 p s (U d (Z a) f) (U Y 0 0))) 189)));have HW:=Ab ((v.alloc (j1 (j2 (AL ⟨p,s,U d (Z a) f⟩)) 187)).alloc (j1 (j2 (A6 p s (U d (Z a) f) (U Y 0 0))) 189));have H0:=Ab ((HG.alloc (j1 (j2 (AL ⟨p,s,U d (Z a) f⟩)) 187)).alloc (j1 (j2 (A6 p s (U d (Z a) f) (U Y 0 0))) 189));have HE:Hid (AI ((D.alloc (j1 (j2 (AL ⟨p,s,U d (Z a) f⟩)) 187)).alloc (j1 (j2 (A6 p s (U d (Z a) f) (U Y 0 0))) 189)) (D.heap.size+1) (A6 p s (U d (Z a) f) (U Y 0 0)) 189):=by
   have hh:=AI.new (D.alloc (j1 (j2 (AL ⟨p,s,U d (Z a) f⟩)) 187)) (A6 p s (U d (Z a) f) (U Y 0 0)) 189;rw[show(D.alloc (j1 (j2 (AL ⟨p,s,U d (Z a) f⟩)) 187)).heap.size=D.heap.size+1 from by simp]at hh
   exact hh
  have H3:=Ab (eC (eC HS (j1 (j2 (AL ⟨p,s,U d (Z a) f⟩)) 187)) (j1 (j2 (A6 p s (U d (Z a) f) (U Y 0 0))) 189));clear h2 v HG HS;simp only[AL];go_wp2_with fail
  change Calls _ _ _ ((D.alloc (j1 (j2 (AL ⟨p,s,U d (Z a) f⟩)) 187)).alloc (j1 (j2 (A6 p s (U d (Z a) f) (U Y 0 0))) 189)) _;generalize(D.alloc (j1 (j2 (AL ⟨p,s,U d (Z a) f⟩)) 187)).alloc (j1 (j2 (A6 p s (U d (Z a) f) (U Y 0 0))) 189)=w3 at DT HW H0 HE H3⊢;obtain⟨C,K6⟩:∃C,D.heap.size+1=C:=⟨_,rfl⟩;have Op:N+1<C:=by omega
  have M6:Hid ((U d (Z a) f).ownBlock≠V C):=λe=>by have:=Aa LM C e;omega
  clear LM;rw[K6]at HE⊢;clear K6 M3 NM;refine(Rs b F c n L Xl _ DT (Au c n) (Bg DT.lt)).mono ?_;rintro e w4 ⟨rfl,k4⟩;have A2:=Ab (DT.zJ k4);have Go:=Ab (HW.kept k4 (by simp));have K3:=Ab (HE.kept k4 (by simp));have FP:=Ab (H0.trans (k4.mono (by simp)));have HZ:=Ab (Ad H3 k4 (by simp));clear DT HW HE H0 H3 k4;cases hc:BD (Au c n) Xl with
  |true=>
   (have HF:Hid (Cu c H=.error (((Au c n).place:Int)+1)):=by show _=_;rw[Aa BS,hc];rfl);clear BS hc K3 HZ;(go_wp2_with fail);refine(JY b F c n L _ A2 (Au c n) (Bg A2.lt)).mono ?_;rintro e w5 ⟨rfl,M⟩;have L0:=Ab (A2.zJ M);have Ax:=Ab (Go.kept M (by simp));have T:=Ab (FP.trans (M.mono (by simp)));have H1:(Au c n).place<=1000000:=Nx n;clear A2 Go FP M;(go_wp2_with fail);refine(FV b F c n L (((Au c n).place:Int)+1) _ L0).mono ?_;rintro e w6 ⟨rfl,h6,B⟩;have t:=Ax.kept B (by simp;omega);have B0:=Ab (T.trans B);have c0:=t.cell 0;have c1:=t.cell 1;have c2:=t.cell 2;have c3:=t.cell 3;have nf:=t.frozen;simp[A6]at c0 c1 c2 c3;have G:=Ab t;have z:=Ab h6;clear t h6 B L0 Ax T;go_wp2;rw[HF.out];have AB:=G.zP rfl (X J 0) (O ⟨#[]⟩) (U Y 0 0) (U Y 0 0);refine eX (Ar (P:=prog) (fn:=Tryz.f115) (p:=2) (u:=3) rfl rfl AB underlying189 rfl (by kernel_rfl)) rfl ?_;refine⟨n,0,jK,Y,0,0,Y,0,0,rfl,?_,?_⟩
   .exact z.zP (by omega) (R N (by omega)) _ _ _ _
   .have:=Aa Q;exact B0.zP (by right;omega) _ _ _ _
  |false=>
   have FT:=Ab hc;clear hc;(go_wp2_with fail);refine(Gg b F c n L cP _ A2 (Au c n) (Bg A2.lt) (HO.seen A2.lt cP)).mono ?_;rintro e w5 ⟨rfl,h5,M⟩;have Ax:=Ab (Go.kept M (by simp;omega));have BA:=Ab (K3.kept M (by simp;omega));have T:=Ab (FP.trans M);have CL:=Ab (Ad HZ M (by simp;omega));clear A2 Go K3 FP HZ M;cases hd:BD (Au c n) cP with
   |false=>
    rw[hd]at h5;simp only[ev,if_false]at h5;(have HD:Hid (Cu c H=My c n ⟨p,s,a,[]⟩):=by show _=_;rw[Aa BS,Aa FT,hd];rfl);have z:=Ab h5;have G:=Ax;have A:=BA;have HK:=T;have HP:Hid (Jb w5 (N+1) (U d (Z a) f) (U Y 0 0) a []):=⟨CL,CE.nil _ _⟩;clear hd h5 BS FT Ax BA T CL;have EX:=z.lt;have Ix:=Ab (Mm b F c n L WZ _ (z.zJ (Ac.refl [] w5).drew) (Au c n) (Bg EX) (HO.seen EX WZ));have e0:=A.cell 0;have e1:=A.cell 1;have e2:=A.cell 2;have e3:=A.cell 3;simp[A6]at e0 e1 e2 e3;(have HQ:Hid (∀m,Ac [b] w5.drew m->AI m N (A6 0 ⟨#[]⟩ (U Y 0 0) (U Y 0 0)) 189/\AI m C (A6 p s (U d (Z a) f) (U Y 0 0)) 189):=λm k=>⟨G.drew.kept k (by simp;omega),A.drew.kept k (by simp;omega)⟩);(have q1:¬C=N:=by omega);(have q2:¬N=C:=by omega);clear z G A;go_wp2_with fail
    go_region_held3 (λI=>I.cell? ⟨C,0,Y⟩=V (X J p)/\I.cell? ⟨C,1,Y⟩=V (O s)/\I.cell? ⟨C,2,Y⟩=V (U d (Z a) f)/\I.cell? ⟨C,3,Y⟩=V (U Y 0 0)) (go_keep) ((go_at_call 163;refine Ix.mono ?_;rintro e m ⟨rfl,l,E⟩;have g:=Aa HQ m E;have f0:=g.2.cell 0;have f1:=g.2.cell 1;have f2:=g.2.cell 2;have f3:=g.2.cell 3;have p0:=g.1.cell 0;have p1:=g.1.cell 1;have p2:=g.1.cell 2;have p3:=g.1.cell 3;have pf:=g.1.frozen;simp[A6]at f0 f1 f2 f3 p0 p1 p2 p3;have HX:=Ab (And.intro l (And.intro E g));clear l E g))
    rename_i HT;clear HT;go_wp2;obtain⟨l,E,g,_⟩:=HX;have AB:=g.zP rfl (X J p) (O s) (U d (Z a) f) (U Y 0 0);have FL:Ac [b] w m:=HK.drew.trans E;have K4:Jb m (N+1) (U d (Z a) f) (U Y 0 0) a []:=(HP.kept (Ac.refl [] w5).drew (by simp)).kept E (by simp;omega);refine eX (Ar (P:=prog) (fn:=Tryz.f115) (p:=2) (u:=3) rfl rfl AB underlying189 rfl (by kernel_rfl)) rfl ?_;rw[Aa HD];cases hcl:BD (Au c n) WZ with
    |true=>
     rw[hcl]at l;simp only[if_true]at l;unfold My;rw[hcl];simp only[if_true];refine⟨d,f,Y,0,[],rfl,rfl,?_,?_,?_⟩
     .rw[Aa Q];exact K4.kept ((Ac.refl [N] m).zP (by simp) _ _ _ _) (by simp)
     .exact l.zP (by omega) (R N (by omega)) _ _ _ _
     .have:=Aa Q;exact FL.zP (by right;omega) _ _ _ _
    |false=>
     rw[hcl]at l;simp only[ev,if_false]at l;unfold My;rw[hcl];simp only[ev,if_false];refine⟨n,p,s,d,Z a,f,Y,_,0,rfl,?_,?_⟩
     .exact l.zP (by omega) (R N (by omega)) _ _ _ _
     .have:=Aa Q;exact FL.zP (by right;omega) _ _ _ _
   |true=>
    rw[hd]at h5;simp only[if_true]at h5;have HA:Hid (Cu c H=(match Fl c (n+1) [] with| .error q=> .error q| .ok (j,W)=>My c W ⟨p,s,a,j⟩)):=by show _=_;rw[Aa BS,Aa FT,hd];rfl
    have MN:=Ab h5;clear hd h5 BS FT;have Nd:=BA.lt;(go_wp2_with fail);refine(XQ b F c (n+1) L _ MN HO).mono ?_;intro e w6 S;clear MN;cases hb:Fl c (n+1) [] with
    |error q=>
     rw[hb]at S;obtain⟨n9,rfl,h6,B⟩:=S;(have HF:Hid (Cu c H=.error q):=by show _=_;rw[Aa HA,hb]);have t:=Ax.kept B (by simp;omega);have A1:=BA.kept B (by simp;omega);have B0:=Ab (T.trans B);have c0:=t.cell 0;have c1:=t.cell 1;have c2:=t.cell 2;have c3:=t.cell 3;have nf:=t.frozen;have d3:=A1.cell 3;have df:=A1.frozen;simp[A6]at c0 c1 c2 c3 d3;(have q1:¬C=N:=by omega);(have q2:¬N=C:=by omega);have G:=Ab t;have z:=Ab h6;clear t A1 h6 B hb HA Ax BA T CL;go_wp2;rw[HF.out];have AB:=(G.zA ⟨C,3,Y⟩ (by simp;omega) (U Y 0 0)).zP rfl (X J 0) (O ⟨#[]⟩) (U Y 0 0) (U Y 0 0);refine eX (Ar (P:=prog) (fn:=Tryz.f115) (p:=2) (u:=3) rfl rfl AB underlying189 rfl (by kernel_rfl)) rfl ?_;refine⟨n9,0,jK,Y,0,0,Y,0,0,rfl,?_,?_⟩
     .exact(z.other (p:=⟨C,3,Y⟩) (by simp;omega) (R C (by omega)) _).zP (by omega) (R N (by omega)) _ _ _ _
     .have:=Aa Q;exact(B0.setCell (p:=⟨C,3,Y⟩) (by right;simp;omega) _).zP (by right;omega) _ _ _ _
    |ok r=>
     obtain⟨j,W⟩:=r;rw[hb]at S;obtain⟨y,x,FW,rfl,LL,K7,h6,B⟩:=S;(have HD:Hid (Cu c H=My c W ⟨p,s,a,j⟩):=by show _=_;rw[Aa HA,hb]);have t:=Ax.kept B (by simp;omega);have A1:=BA.kept B (by simp;omega);have B0:=T.trans B;have MB:=Ad CL B (by simp;omega);have d3:=A1.cell 3;have df:=A1.frozen;simp[A6]at d3;have LS:=Ab t;have K5:=Ab A1;have Mo:=Ab B0;have LE:=Ab MB;have KK:=Ab (And.intro LL K7);have LB:=Ab h6;clear t A1 B0 MB LL K7 h6 B hb HA Ax BA T CL;(go_wp2_with fail);have NX:C<w5.heap.size:=Nd;have z:=Ab (LB.other (p:=⟨C,3,Y⟩) (by simp;omega) (R C (by omega)) (U y (Z j) x));have G:=Ab (LS.zA ⟨C,3,Y⟩ (by simp;omega) (U y (Z j) x));have A:Hid (AI (w6.setCell ⟨C,3,Y⟩ (U y (Z j) x)) C (A6 p s (U d (Z a) f) (U y (Z j) x)) 189):=K5.set 3 _;have HK:Hid (Ac [b] w (w6.setCell ⟨C,3,Y⟩ (U y (Z j) x))):=by
      have:=Aa Q;exact Mo.setCell (p:=⟨C,3,Y⟩) (by right;simp;omega) _
     have HP:Hid (Jb (w6.setCell ⟨C,3,Y⟩ (U y (Z j) x)) (N+1) (U d (Z a) f) (U y (Z j) x) a FW):=by
      have kC:Ac [C] w6 (w6.setCell ⟨C,3,Y⟩ (U y (Z j) x)):=(Ac.refl [C] w6).setCell (by simp) _;refine⟨?_,(KK.2.kept kC (by simp;omega)).base (by omega)⟩;exact Ag LE (p:=⟨C,3,Y⟩) M6 _
     have HM:Hid (FW.map jM=j):=KK.1;clear LB LS K5 Mo LE KK d3 df;generalize w6.setCell ⟨C,3,Y⟩ (U y (Z j) x)=w7 at z G A HK HP⊢;have EX:=z.lt;have Ix:=Ab (Mm b F c W L WZ _ (z.zJ (Ac.refl [] w7).drew) (Au c W) (Bg EX) (HO.seen EX WZ));have e0:=A.cell 0;have e1:=A.cell 1;have e2:=A.cell 2;have e3:=A.cell 3;simp[A6]at e0 e1 e2 e3;(have HQ:Hid (∀m,Ac [b] w7.drew m->AI m N (A6 0 ⟨#[]⟩ (U Y 0 0) (U Y 0 0)) 189/\AI m C (A6 p s (U d (Z a) f) (U y (Z j) x)) 189):=λm k=>⟨G.drew.kept k (by simp;omega),A.drew.kept k (by simp;omega)⟩);(have q1:¬C=N:=by omega);(have q2:¬N=C:=by omega);clear z G A;go_wp2_with fail
     go_region_held3 (λI=>I.cell? ⟨C,0,Y⟩=V (X J p)/\I.cell? ⟨C,1,Y⟩=V (O s)/\I.cell? ⟨C,2,Y⟩=V (U d (Z a) f)/\I.cell? ⟨C,3,Y⟩=V (U y (Z j) x)) (go_keep) ((go_at_call 163;refine Ix.mono ?_;rintro e m ⟨rfl,l,E⟩;have g:=Aa HQ m E;have f0:=g.2.cell 0;have f1:=g.2.cell 1;have f2:=g.2.cell 2;have f3:=g.2.cell 3;have p0:=g.1.cell 0;have p1:=g.1.cell 1;have p2:=g.1.cell 2;have p3:=g.1.cell 3;have pf:=g.1.frozen;simp[A6]at f0 f1 f2 f3 p0 p1 p2 p3;have HX:=Ab (And.intro l (And.intro E g));clear l E g))
     rename_i HT;clear HT;go_wp2;obtain⟨l,E,g,_⟩:=HX;have AB:=g.zP rfl (X J p) (O s) (U d (Z a) f) (U y (Z j) x);have FL:Ac [b] w m:=HK.drew.trans E;have K4:Jb m (N+1) (U d (Z a) f) (U y (Z j) x) a FW:=(HP.kept (Ac.refl [] w7).drew (by simp)).kept E (by simp;omega);refine eX (Ar (P:=prog) (fn:=Tryz.f115) (p:=2) (u:=3) rfl rfl AB underlying189 rfl (by kernel_rfl)) rfl ?_;rw[Aa HD];cases hcl:BD (Au c W) WZ with
     |true=>
      rw[hcl]at l;simp only[if_true]at l;unfold My;rw[hcl];simp only[if_true];refine⟨d,f,y,x,FW,rfl,HM,?_,?_,?_⟩
      .rw[Aa Q];exact K4.kept ((Ac.refl [N] m).zP (by simp) _ _ _ _) (by simp)
      .exact l.zP (by omega) (R N (by omega)) _ _ _ _
      .have:=Aa Q;exact FL.zP (by right;omega) _ _ _ _
     |false=>
      rw[hcl]at l;simp only[ev,if_false]at l;unfold My;rw[hcl];simp only[ev,if_false];refine⟨W,p,s,d,Z a,f,y,_,x,rfl,?_,?_⟩
      .exact l.zP (by omega) (R N (by omega)) _ _ _ _
      .have:=Aa Q;exact FL.zP (by right;omega) _ _ _ _
