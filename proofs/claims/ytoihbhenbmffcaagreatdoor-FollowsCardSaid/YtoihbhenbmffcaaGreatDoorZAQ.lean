import Derived.Test.YtoihbhenbmffcaaGreatDoorZAP
import Derived.Test.YtoihbhenbmffcaaGreatDoorZAB
import Derived.Test.YtoihbhenbmffcaaGreatDoorZAE
set_option linter.unusedVariables false
set_option linter.unusedSimpArgs false
set_option maxHeartbeats 6400000
namespace Go.Proofs.YtoihbhenbmffcaaGreatDoor
open Go.RowKit
open Go.Proofs.Tryz
theorem Tryz.info43:(Tryz.prog.info? 43).map (λi=>(i.zero,i.size,i.bytes))=some (some (.agg #[.string ⟨#[]⟩, .slice none 0 0]),2,40):=by kernel_rfl
def Fx(x:CM)(a:List CM×Bool)(y:CM):List CM×Bool:=if !a.2&&Di x.f y.f then(a.1++[x]++[y],true)else(a.1++[y],a.2)
def In(l:List CM)(x:CM):List CM×Bool:=l.foldl (Fx x) ([],false)
def MF(l:List CM)(x:CM):List CM:=if(In l x).2 then(In l x).1 else(In l x).1++[x]
def SN(l:List CM)(x:Aj):Bool:=l.any λp=>F5 p.f x
def J0(l:List CM)(x:CM):List CM:=if SN l x.f then l else MF l x
theorem Td{l:List CM}{k:Nat}(a:k<l.length)(x:CM):In (l.take (k+1)) x=Fx x (In (l.take k) x) l[k]:=by
 unfold In;rw[ac a,bD];rfl
theorem Pw(x p:CM):∀(l:List CM) (a:List CM×Bool),p∈(l.foldl (Fx x) a).1->p=x\/p∈a.1\/p∈l
 |[],a,h=>Or.inr (Or.inl h)
 |y::l,a,h=>by
  rcases Pw x p l (Fx x a y) h with h|h|h
  ·exact Or.inl h
  ·unfold Fx at h;split at h
   ·simp only[aw,ae]at h;rcases h with(h|h)|h
    ·exact Or.inr (Or.inl h)
    ·exact Or.inl h
    ·exact Or.inr (Or.inr (by simp[h]))
   ·simp only[aw,ae]at h;rcases h with h|h
    ·exact Or.inr (Or.inl h)
    ·exact Or.inr (Or.inr (by simp[h]))
  ·exact Or.inr (Or.inr (by simp[h]))
theorem X5{l:List CM}{x p:CM}(h:p∈MF l x):p=x\/p∈l:=by
 unfold MF at h;have a:∀p,p∈(In l x).1->p=x\/p∈l:=λp b=>by
  rcases Pw x p l ([],false) b with h|h|h
  ·exact Or.inl h
  ·simp at h
  ·exact Or.inr h
 split at h
 ·exact a p h
 ·rcases aw.1 h with h|h
  ·exact a p h
  ·exact Or.inl (by simpa using h)
theorem Sb{w:World}{p:CM}(h:G8 w p):∀u∈BU p,u.oneCell'=true:=by
 obtain⟨c,b,e⟩:=Ak h;intro u a;simp only[BU,aj,bE,or_false]at a;rcases a with rfl|rfl
 ·rfl
 ·rw[e];rfl
set_option maxRecDepth 100000
theorem Vi(FA:Option Addr)(CC:Nat)(a:List CM)(x:CM)(w:World)(h:F4 w (.slice FA a.length CC) a)(O:G8 w x)(NV:a.length<=100000)(FL:RX x.f):
  Calls prog 57 #[.slice FA a.length CC, .agg (BU x).toArray] w λe T=>∃c j,e= .returned (.slice c (J0 a x).length j)/\F4 T (.slice c (J0 a x).length j) (J0 a x)/\Ac [] w T:=by
 obtain⟨i0,EX,Ax,EY,B9⟩:=bj Tryz.info43;have H5:Hid (∀wr,Ac [] w wr->Calls prog 21 #[.slice FA a.length CC, .agg (BU x).toArray] wr λe T=>e= .returned (.bool (SN a x.f))/\Ac [] wr T):=λwr E=>Ob FA CC a x wr (h.kept E) (O.kept E) (by omega) FL
 have K7:Hid (∀(p:CM) wr,p∈a->Ac [] w wr->Calls prog 46 #[.agg (BU x).toArray, .agg (BU p).toArray] wr λe T=>e= .returned (.bool (Di x.f p.f))/\Ac [] wr T):=λp wr H E=>Vk x p wr (O.kept E) ((h.each p H).1.kept E) FL (h.each p H).2
 have HS:=Ab h;have K9:Hid (∀(wr:World) c j,Ac [] w wr->wr.ownsRow 0 43 2 (.slice c (MF a x).length j) (MF a x).length ((MF a x).flatMap BU)->F4 wr (.slice c (MF a x).length j) (MF a x)):=by
  intro wr c j E hr;refine⟨hr,λp H=>?_⟩;rcases X5 H with rfl|H
  ·exact⟨O.kept E,FL⟩
  ·exact⟨(h.each p H).1.kept E,(h.each p H).2⟩
 have HO:=Ab (Sb O);have MB:Hid (∀p∈a,∀u∈BU p,u.oneCell'=true):=λp H=>Sb (h.each p H).1
 obtain⟨z,A,K2⟩:=Ak O;obtain⟨D,RO,Z⟩:∃n v,BU x=[.string n,v]/\v= .slice z x.f.args.length A:=⟨_,_,rfl,K2⟩;obtain⟨Z,rfl⟩:=Z;rw[Z]at H5 K7 HO⊢;have LB:=Ab Z;generalize x.f.args.length=xl at*;clear h O FL K2 Z;have r:=Ab (Aw.new w [.string D, .slice z xl A] 43);have l:=Ab ((Ac.refl [] w).alloc (.cells [.string D, .slice z xl A].toArray 43));have RB:∀(x:Bool) (w:World),(Op.unary .not (.bool x)).run prog w= .ok (.bool (!x)) w:=λ_ _=>rfl
 obtain⟨FW,H4⟩:∃FW,J0 a x=FW:=⟨_,rfl⟩;rw[H4];have FC:Hid ((if SN a x.f then a else MF a x)=FW):=H4;clear H4;go_enter func57,ntmps57;go_wp2_with fail
 refine(Aa H5 _ (Aa l)).mono ?_;rintro e w2 ⟨rfl,k2⟩;have HJ:=Ab ((Aa r).kept k2 (by simp));have Ha:=Ab ((Aa l).trans k2);clear H5 r l k2;generalize SN a x.f=HB at FC;cases HB with
 |true=>
  have HE:Hid (a=FW):=Aa FC;go_wp2;go_ret;rw[<-Aa HE];exact⟨FA,CC,rfl,(Aa HS).kept (Aa Ha),Aa Ha⟩
 |false=>
  have HE:Hid (MF a x=FW):=Aa FC;clear FC;go_wp2;obtain⟨N,H0⟩:∃N,w.heap.size=N:=⟨_,rfl⟩;rw[H0]at HJ⊢;have EK:=Ab H0;clear H0
  go_loopg [6,7,8] a.length (λgk o d i wr=>∃(k:Nat) (b:List CM) (s:Bool) (C:Option Addr) (B:Nat),o= .slice C b.length B/\d= .bool s/\i= .int .i64 k/\k<=a.length/\gk=a.length-k/\b.length<=k+s.toNat/\Hid (In (a.take k) x=(b,s))/\wr.ownsRow (N+1) 43 2 (.slice C b.length B) b.length (b.flatMap BU)/\Hid (Ac [] w wr)/\Hid (Aw wr N [.string D, .slice z xl A] 43))
  case atStart=>exact⟨0,[],false,none,0,rfl,rfl,rfl,by omega,rfl,by simp,by show _=_;simp[In],ax _ _ _ _,Ha,HJ⟩
  case round=>
   clear HJ Ha;obtain⟨k,b,s,C,B,rfl,rfl,rfl,E,K6,H8,HF,I,l,r⟩:=hrel;have HG:=Ab K6;clear K6;have RE:=(Aa r).lt;(have PT:s.toNat<=1:=by cases s<;>simp);have HD:Hid (b.length<=k+s.toNat):=H8;(have P0:b.length<=100001:=by omega);clear H8;by_cases Y:k<a.length
   ·obtain⟨g,RV,n,F,c,j,he,HX,d0,d1⟩:=Fe ((Aa HS).kept (Aa l)) k Y;simp only[Z6]at he;obtain⟨rfl,_,rfl⟩:=he;have c0:=(Aa r).cell 0;have c1:=(Aa r).cell 1;simp at c0 c1;(have L:Hid (In (a.take (k+1)) x=Fx x (b,s) a[k]):=by show _=_;rw[Td Y,Aa HF]);have AH:=Ab (Aa K7 a[k] wr.drew (Z7 Y) (Aa l).drew);have FF:=Ab (Aa MB a[k] (Z7 Y));obtain⟨AB,H1⟩:∃AB,Di x.f a[k].f=AB:=⟨_,rfl⟩;have M:=Ab H1;rw[H1]at AH;(have W:Hid (BU a[k]=[.string n, .slice c F.length j]):=by show _=_;rw[HX];rfl);rw[Aa W]at AH FF;have H2:Hid (∀wz:World,Ac [] w wz->wz.cell? ⟨g,k*2,none⟩=some (.string n)/\wz.cell? ⟨g,k*2+1,none⟩=some (.slice c F.length j)):=by
     intro wz Nq;obtain⟨g',N4,n',OH,SB,RI,H7,LL,f0,f1⟩:=Fe ((Aa HS).kept Nq) k Y;have e2:=LL.symm.trans HX;simp only[Z6,ai,aW,CM.mk.injEq,Aj.mk.injEq]at H7 e2;obtain⟨⟨rfl,_,_⟩,_,_⟩:=H7;obtain⟨⟨rfl,rfl⟩,rfl,_,rfl⟩:=e2;exact⟨f0,f1⟩
    obtain⟨y,hy⟩:∃y,a[k]=y:=⟨_,rfl⟩;rw[hy]at L W M;clear HX H1 HF hy;cases s with
    |true=>
     (have X:Hid (In (a.take (k+1)) x=(b++[y],true)):=by show _=_;rw[Aa L];simp[Fx]);clear L AH M;(have KK:Hid (∀(nq:Nat) (m:World),((wr.drewN nq).alloc (.cells #[.string n, .slice c F.length j] 43)).grownBy m (Value.slice C b.length B).ownBlock->Ac [] w m/\Aw m N [.string D, .slice z xl A] 43):=λnq m hg=>⟨(((Aa l).drewN nq).alloc _).grown hg (λq G=>Or.inr (by have:=(I.lt q G).1;have:=Aa EK;omega)),(((Aa r).drewN nq).alloc _).grown hg (λe=>by have:=(I.lt N e).1;omega)⟩);go_wp2_with fail
     go_quiet (fail)
     all_goals
      go_wp2_with (at_builtin;refine ay _ rfl (.tmp 34) (.tmp 39) _ rfl (N+1) 43 i0 _ 2 40 underlying35 EX Ax EY B9 rfl (by omega) (.slice C b.length B) b.length (b.flatMap BU) rfl (ah (CT I nq) _) ⟨wr.heap.size,0,none⟩ 1 1 [.string n, .slice c F.length j] rfl rfl (aF (cs:=#[.string n, .slice c F.length j]) (t:=43) (fr:=(0,0)) (aS (wr.drewN nq) _)) (Aa FF) (by omega) (by unfold maxLen;omega) (by omega) (by simp;omega) (wr.heap.size+1) (by simp) ?_;intro g1 LM m MY Ix NM NY)
      go_roundg (a.length-(k+1))
      case measure=>have:=Aa HG;omega
      case rel=>exact⟨k+1,b++[y],true,some ⟨g1,0,none⟩,LM,by simp,rfl,by go_num,by omega,rfl,by have:=Aa HD;simp at this⊢;omega,X,by rw[aN,aB,bq,aX,Aa W];simpa using MY,(Aa KK nq m Ix).1,(Aa KK nq m Ix).2⟩
    |false=>
     go_wp2_with fail
     go_region_law (go_simp;go_at_call 46;refine(Aa AH).mono ?_;rintro e K ⟨rfl,k3⟩;have HY:=Ab ((Aa l).drew.trans k3);have Bx:=Ab ((Aa r).drew.kept k3 (by simp));have P:=Ad (F3 I) k3 (by simp);clear k3)
     all_goals
      clear AH l r I;have Pl:=(Aa Bx).lt;obtain⟨NX,QQ⟩:=Aa H2 K (Aa HY);have x0:=(Aa Bx).cell 0;have x1:=(Aa Bx).cell 1;simp at x0 x1;have HQ:=Aa HD;simp only[eu,eD]at HQ;clear d0 d1 c0 c1;cases AB with
      |true=>
       have X:Hid (In (a.take (k+1)) x=(b++[x]++[y],true)):=by
        show _=_;rw[Aa L];have hh:=Aa M;simp[Fx,hh]
       clear L M;go_wp2_with (first
        |(at_builtin;refine ay _ rfl (.tmp 30) (.tmp 32) _ rfl (N+1) 43 i0 _ 2 40 underlying35 EX Ax EY B9 rfl (by omega) (.slice C b.length B) b.length (b.flatMap BU) rfl (ah P _) ⟨K.heap.size,0,none⟩ 1 1 [.string D, .slice z xl A] rfl rfl (aF (cs:=#[.string D, .slice z xl A]) (t:=43) (fr:=(0,0)) (aS K _)) (Aa HO) (by omega) (by unfold maxLen;omega) (by omega) (by simp;omega) (K.heap.size+1) (by simp) ?_;intro g8 M0 R HC HA L0 LC;have Go:=((Aa HY).alloc _).grown HA (λq G=>Or.inr (by have:=(P.lt q G).1;have:=Aa EK;omega));have f0:=(Aa H2 R Go).1;have f1:=(Aa H2 R Go).2;have MN:=Ab Go;have Mo:=Ab (((Aa Bx).alloc _).grown HA (λe=>by have:=(P.lt N e).1;omega));have Os:N+1<=R.heap.size:=(by have:=HA.size;simp at this;omega);clear HA L0 LC Go)
        |(at_builtin;refine ay _ rfl (.tmp 34) (.tmp 39) _ rfl (N+1) 43 i0 _ 2 40 underlying35 EX Ax EY B9 rfl (by omega) (.slice (some ⟨g8,0,none⟩) (b.length+1) M0) (b.length+1) (b.flatMap BU++[.string D, .slice z xl A]) rfl (ah HC _) ⟨R.heap.size,0,none⟩ 1 1 [.string n, .slice c F.length j] rfl rfl (aF (cs:=#[.string n, .slice c F.length j]) (t:=43) (fr:=(0,0)) (aS R _)) (Aa FF) (by omega) (by unfold maxLen;omega) (by omega) (by simp;omega) (R.heap.size+1) (by simp) ?_;intro Q U m S J HU H3))
       have V:=((Aa MN).alloc _).grown J (λq G=>Or.inr (by have:=(HC.lt q G).1;have:=Aa EK;omega));have H6:=((Aa Mo).alloc _).grown J (λe=>by have:=(HC.lt N e).1;omega)
       go_roundg (a.length-(k+1))
       case measure=>have:=Aa HG;omega
       case rel=>exact⟨k+1,b++[x]++[y],true,some ⟨Q,0,none⟩,U,by simp,rfl,by go_num,by omega,rfl,by simp;omega,X,by simp only[aN,aB,bq,aX];rw[Aa W,Aa LB];simpa using S,V,H6⟩
      |false=>
       have X:Hid (In (a.take (k+1)) x=(b++[y],false)):=by
        show _=_;rw[Aa L];have hh:=Aa M;simp[Fx,hh]
       clear L M;go_wp2_with (at_builtin;refine ay _ rfl (.tmp 34) (.tmp 39) _ rfl (N+1) 43 i0 _ 2 40 underlying35 EX Ax EY B9 rfl (by omega) (.slice C b.length B) b.length (b.flatMap BU) rfl (ah P _) ⟨K.heap.size,0,none⟩ 1 1 [.string n, .slice c F.length j] rfl rfl (aF (cs:=#[.string n, .slice c F.length j]) (t:=43) (fr:=(0,0)) (aS K _)) (Aa FF) (by omega) (by unfold maxLen;omega) (by omega) (by simp;omega) (K.heap.size+1) (by simp) ?_;intro Q U m S J HU H3)
       have V:=((Aa HY).alloc _).grown J (λq G=>Or.inr (by have:=(P.lt q G).1;have:=Aa EK;omega));have H6:=((Aa Bx).alloc _).grown J (λe=>by have:=(P.lt N e).1;omega)
       go_roundg (a.length-(k+1))
       case measure=>have:=Aa HG;omega
       case rel=>exact⟨k+1,b++[y],false,some ⟨Q,0,none⟩,U,by simp,rfl,by go_num,by omega,rfl,by simp;omega,X,by simp only[aN,aB,bq,aX];rw[Aa W];simpa using S,V,H6⟩
   ·have K8:Hid (In a x=(b,s)):=by
     have h:=Aa HF
     rwa [Z9 (by omega)]at h
    cases s with
    |true=>
     (have HW:Hid (MF a x=b):=by show _=_;unfold MF;rw[Aa K8];rfl);go_wp2;go_ret;rw[<-Aa HE,Aa HW];have CL:=Aa K9 wr C B (Aa l);rw[Aa HW]at CL;exact⟨C,B,rfl,CL (Ai I (aG _)),Aa l⟩
    |false=>
     (have HW:Hid (MF a x=b++[x]):=by show _=_;unfold MF;rw[Aa K8];rfl);have x0:=(Aa r).cell 0;have x1:=(Aa r).cell 1;simp at x0 x1;have HQ:=Aa HD;simp only[eu,eD]at HQ;go_wp2_with (at_builtin;refine ay _ rfl (.tmp 43) (.tmp 45) _ rfl (N+1) 43 i0 _ 2 40 underlying35 EX Ax EY B9 rfl (by omega) (.slice C b.length B) b.length (b.flatMap BU) rfl (ah I _) ⟨wr.heap.size,0,none⟩ 1 1 [.string D, .slice z xl A] rfl rfl (aF (cs:=#[.string D, .slice z xl A]) (t:=43) (fr:=(0,0)) (aS wr _)) (Aa HO) (by omega) (by unfold maxLen;omega) (by omega) (by simp;omega) (wr.heap.size+1) (by simp) ?_;intro Q U m S J HU H3)
     have V:=((Aa l).alloc _).grown J (λq G=>Or.inr (by have:=(I.lt q G).1;have:=Aa EK;omega));have HL:=Ab (And.intro S V);clear S V J HU H3;go_wp2;go_ret;rw[<-Aa HE,Aa HW];have CL:=Aa K9 m (some ⟨Q,0,none⟩) U (Aa HL).2;rw[Aa HW]at CL;refine⟨some ⟨Q,0,none⟩,U,by simp,CL ?_,(Aa HL).2⟩;simp only[aN,aB,bq,aX];rw[Aa LB];simpa using Ai (Aa HL).1 (aG _)
def Ie:cL->Bool->List cL->cL
 |s,_,[]=>s
 |s,b,x::l=>Ie ((if b then s++⟨#[44]⟩else s)++x) true l
def Jo(f:Aj):cL:=Ie (f.name++⟨#[40]⟩) false f.args++⟨#[41,46]⟩
theorem Ox(c:UInt8):(⟨#[c]⟩:cL).size=1:=rfl
theorem Xb(c d:UInt8):(⟨#[c,d]⟩:cL).size=2:=rfl
theorem Nd:∀(l:List cL) (s:cL) (b:Bool),(∀x∈l,x.size<=1000000)->(Ie s b l).size<=s.size+l.length*1000001
 |[],s,b,_=>by simp[Ie]
 |x::l,s,b,h=>by
  have c:=h x (by simp);have ih:=Nd l ((if b then s++⟨#[44]⟩else s)++x) true (λy a=>h y (by simp[a]));rw[Ie];simp only[ak];have:((if b then s++⟨#[44]⟩else s)++x).size<=s.size+1+x.size:=by
   rw[aU];cases b
   ·simp
   ·simp only[if_true];rw[aU,Ox];omega
  omega
theorem Tg{f:Aj}(h:RX f)(c:f.name.size<=1000000):(Jo f).size<=2000000000:=by
 have:=Nd f.args (f.name++⟨#[40]⟩) false (λx a=>(h.each x a).2);have b:=h.len;unfold Jo;rw[aU,Xb];rw[aU,Ox]at this;omega
theorem P4(p:CM)(w:World)(h:G8 w p)(q:RX p.f)(O:p.f.name.size<=1000000):
  Calls prog 28 #[.agg (BU p).toArray] w λe F=>e= .returned (.string (Jo p.f))/\Ac [] w F:=by
 obtain⟨⟨n,a⟩,Y⟩:=p;have M:=q.len;have I:Hid (∀x∈a,x.size<=1000000):=λx C=>(q.each x C).2
 simp only at M O;obtain⟨b,c,e⟩:=Ak h;simp only at e;subst e;have J:Hid (w.ownsRow 0 9 1 (.slice b a.length c) a.length (a.flatMap Ae)):=h;obtain⟨R,v⟩:∃R,Jo ⟨n,a⟩=R:=⟨_,rfl⟩;rw[v];have B:Hid (Ie (n++⟨#[40]⟩) false (a.drop 0)++⟨#[41,46]⟩=R):=v;have r:=Ab (Aw.new w [.string n, .slice b a.length c] 43);have u:=Ab ((Ac.refl [] w).alloc (.cells [.string n, .slice b a.length c].toArray 43));clear h q v;simp only[BU];have H:(n++⟨#[40]⟩:cL).size<=1000001:=by rw[aU,Ox];omega
 have T:(⟨#[40]⟩:cL).size=1:=rfl;have U:(⟨#[44]⟩:cL).size=1:=rfl;have X:(⟨#[41,46]⟩:cL).size=2:=rfl;go_enter func28,ntmps28;go_wp2;change Code.wp _ _ _ _ (w.alloc (.cells [.string n, .slice b a.length c].toArray 43));generalize w.alloc (.cells [.string n, .slice b a.length c].toArray 43)=w1 at r u⊢;generalize w.heap.size=N at r⊢;have K:=(Aa r).cell 1;simp at K
 go_loopg [3,4] a.length (λgk o i wr=>∃(k:Nat) (s:cL),o= .string s/\i= .int .i64 k/\k<=a.length/\gk=a.length-k/\s.size<=1000001+k*1000001/\Hid (Ie s (decide (0<k)) (a.drop k)++⟨#[41,46]⟩=R)/\wr=w1)
 case atStart=>exact⟨0,_,rfl,rfl,by omega,rfl,by simpa using H,B,rfl⟩
 case round=>
  clear B;obtain⟨k,s,rfl,rfl,Q,A,V,d,rfl⟩:=hrel;have z:=Ab A;clear A;by_cases l:k<a.length
  ·obtain⟨g,S,D,W⟩:=Gz (Ad (Aa J) (Aa u) (by simp)) k l;simp only[Z6]at D;obtain⟨rfl,_,rfl⟩:=D;have C:=Aa I a[k] (Z7 l);have j:Hid (Ie ((if decide (0<k)then s++⟨#[44]⟩else s)++a[k]) true (a.drop (k+1))++⟨#[41,46]⟩=R):=by
    have h:=Aa d;rw[aC l,Ie]at h;exact h
   have E:k*1000001<=1000*1000001:=bA _ (by omega);by_cases y:0<k
   ·(have G:(0:Int)<(k:Int):=by omega);have m:Hid (Ie (s++⟨#[44]⟩++a[k]) (decide (0<k+1)) (a.drop (k+1))++⟨#[41,46]⟩=R):=by
     have h:=Aa j;simp only[y,decide_true,if_true]at h;show _=_;simpa using h
    (have L:(s++⟨#[44]⟩:cL).size=s.size+1:=by rw[aU];rfl);(have t:(s++⟨#[44]⟩++a[k]:cL).size<=1000001+(k+1)*1000001:=by rw[aU,L];omega);clear d j;go_wp2
    go_roundg (a.length-(k+1))
    case measure=>have:=Aa z;omega
    case rel=>exact⟨k+1,_,rfl,by go_num,by omega,rfl,t,m,rfl⟩
   ·(have G:¬(0:Int)<(k:Int):=by omega);have m:Hid (Ie (s++a[k]) (decide (0<k+1)) (a.drop (k+1))++⟨#[41,46]⟩=R):=by
     have h:=Aa j;simp only[y,ee,Z8,if_false]at h;show _=_;simpa using h
    (have t:(s++a[k]:cL).size<=1000001+(k+1)*1000001:=by rw[aU];omega);clear d j;go_wp2
    go_roundg (a.length-(k+1))
    case measure=>have:=Aa z;omega
    case rel=>exact⟨k+1,_,rfl,by go_num,by omega,rfl,t,m,rfl⟩
  ·have P:Hid (s++⟨#[41,46]⟩=R):=by
    have h:=Aa d;rw[aQ (by omega)]at h;exact h
   have E:k*1000001<=1000*1000001:=bA _ (by omega);go_wp2;go_ret;rw[<-Aa P];exact⟨rfl,Aa u⟩
def OU:cL->List CM->cL
 |t,[]=>t
 |t,p::l=>OU (t++Jo p.f++⟨#[10]⟩) l
theorem Rl(z:Option Addr)(B:Nat)(a:List CM)(w:World)(h:F4 w (.slice z a.length B) a)(T:a.length<=100000)(u:∀p∈a,p.f.name.size<=1000000):
  Calls prog 66 #[.slice z a.length B] w λe m=>e= .returned (.string (OU ByteArray.empty a))/\Ac [] w m:=by
 have H:=Ab h;have M:Hid (∀(p:CM) wr,p∈a->Ac [] w wr->Calls prog 28 #[.agg (BU p).toArray] wr λe m=>e= .returned (.string (Jo p.f))/\Ac [] wr m):=λp wr b v=>P4 p wr ((h.each p b).1.kept v) (h.each p b).2 (u p b)
 have I:Hid (∀p∈a,(Jo p.f).size<=2000000000):=λp b=>Tg (h.each p b).2 (u p b)
 obtain⟨R,t⟩:∃R,OU ByteArray.empty a=R:=⟨_,rfl⟩;rw[t];have A:Hid (OU ByteArray.empty (a.drop 0)=R):=t;clear h t u;have S:(⟨#[10]⟩:cL).size=1:=rfl;go_enter func66,ntmps66;go_wp2
 go_loopg [3,4] a.length (λgk o i wr=>∃(k:Nat) (s:cL),o= .string s/\i= .int .i64 k/\k<=a.length/\gk=a.length-k/\s.size<=k*2000000001/\Hid (OU s (a.drop k)=R)/\Hid (Ac [] w wr))
 case atStart=>exact⟨0,ByteArray.empty,rfl,rfl,by omega,rfl,by simp,A,Ac.refl _ _⟩
 case round=>
  clear A;obtain⟨k,s,rfl,rfl,v,y,U,q,l⟩:=hrel;have E:=Ab y;clear y;have N:k*2000000001<=100000*2000000001:=bA _ (by omega);by_cases d:k<a.length
  ·obtain⟨g,Q,n,J,V,X,D,C,W,P⟩:=Fe ((Aa H).kept (Aa l)) k d;simp only[Z6]at D;obtain⟨rfl,_,rfl⟩:=D;have c:=Ab (Aa M a[k] wr (Z7 d) (Aa l));have r:=Aa I a[k] (Z7 d);have j:Hid (OU (s++Jo a[k].f++⟨#[10]⟩) (a.drop (k+1))=R):=by
    have h:=Aa q;rw[aC d,OU]at h;exact h
   rw[C]at c r j;simp only[BU]at c r j;generalize Jo ⟨n,J⟩=FT at c r j;clear C q;(have F:(s++FT:cL).size=s.size+FT.size:=by rw[aU]);(have G:(s++FT++⟨#[10]⟩:cL).size<=(k+1)*2000000001:=by rw[aU,F];omega);(go_wp2_with fail);refine(Aa c).mono ?_;rintro e O ⟨rfl,x⟩;have K:=Ab ((Aa l).trans x);clear c x;go_wp2
   go_roundg (a.length-(k+1))
   case measure=>have:=Aa E;omega
   case rel=>exact⟨k+1,_,rfl,by go_num,by omega,rfl,G,j,K⟩
  ·have L:Hid (s=R):=by
    have h:=Aa q;rw[aQ (by omega)]at h;exact h
   go_wp2;go_ret;rw[<-Aa L];exact⟨rfl,Aa l⟩
def Ah(e:List cL):List Value:=e.map Value.string
theorem Bl(e:List cL):(Value.agg (Ah e).toArray).cells=(Ah e).toArray:=by
 unfold Ah;simp[Value.cells]
def AU(e:List cL)(t:AG):cL:=if t.v=0 then t.s else e.getD (t.v.toNat-65) ByteArray.empty
theorem Je(e:List cL)(t:AG)(w:World)(C:e.length=26)(f:t.v=0\/(65<=t.v.toNat/\t.v.toNat<=90)):
  Calls prog 89 #[.agg (Ah e).toArray, .agg (Az t).toArray] w λr x=>r= .returned (.string (AU e t))/\Ac [] w x:=by
 have D:=Bl e;have A:(Ah e).length=26:=by unfold Ah;simp[C]
 have g:Hid (∀i (h:i<26),(Ah e)[i]?=some (.string (e.getD i ByteArray.empty))):=by
  intro i h;unfold Ah;rw[cu,aq,aA (by omega)];rfl
 obtain⟨a,c⟩:=t;obtain⟨R,m⟩:∃R,AU e ⟨a,c⟩=R:=⟨_,rfl⟩;rw[m];have k:Hid ((if a=0 then c else e.getD (a.toNat-65) ByteArray.empty)=R):=m;generalize Ah e=E at D A g⊢;have l:=Ab (((Ac.refl [] w).alloc (.cells E.toArray 90)).alloc (.cells [.int .u8 a.toNat, .string c].toArray 93));have p:=Ab ((Aw.new w E 90).alloc (.cells [.int .u8 a.toNat, .string c].toArray 93));simp only[Az];clear m;simp only at f;by_cases b:a=0
 ·have d:Hid (c=R):=by have h:=Aa k;rw[if_pos b]at h;exact h
  subst b;go_enter func89,ntmps89;go_wp2;go_ret;rw[<-Aa d];exact⟨rfl,Aa l⟩
 ·have d:Hid (e.getD (a.toNat-65) ByteArray.empty=R):=by have h:=Aa k;rw[if_neg b]at h;exact h
  have B:65<=a.toNat/\a.toNat<=90:=by
   rcases f with h|h
   ·exact absurd h b
   ·exact h
  have z:((a.toNat:Int)==0)=false:=by rw[bc];omega
  obtain⟨j,u⟩:∃j,a.toNat-65=j:=⟨_,rfl⟩;have s:a.toNat=j+65:=by omega
  rw[u]at d;have q:j<26:=by omega
  rw[s]at p l z⊢;have o:=(Aa p).cell j;rw[Aa g j q]at o;have y:Hid (∀h:j<E.length,E[j]= .string (e.getD j ByteArray.empty)):=λh=>by
   have n:=Aa g j q;rw[aA h]at n;exact ez n
  clear k u s B f b o;go_enter func89,ntmps89;go_wp2;go_ret;rw[<-Aa d];exact⟨congrArg Ending.returned (Aa y _),Aa l⟩
def QR(x:cL):Bool:=x.toList==[]
theorem DG(x:cL):QR x=true↔x.size=0:=by
 unfold QR;rw[B4];cases h:x.toList<;>simp
theorem D4(a b:cL):(a.toList==b.toList)=true↔a=b:=by
 constructor
 ·intro h;exact toList_inj (by simpa using h)
 ·intro h;rw[h];simp
def Cu:List cL->List AG->List cL->List cL×Bool
 |e,[],_=>(e,true)
 |e,_::_,[]=>(e,true)
 |e,t::ts,x::xs=>if QR (AU e t)then Cu (e.set (t.v.toNat-65) x) ts xs else if(AU e t).toList==x.toList then Cu e ts xs else(e,false)
def Zl(e e':List cL):Prop:=e'.length=e.length/\∀j,(e.getD j ByteArray.empty).size≠0->e'.getD j ByteArray.empty=e.getD j ByteArray.empty
theorem Zl.refl(e:List cL):Zl e e:=⟨rfl,λ_ _=>rfl⟩
theorem Zl.trans{a b c:List cL}(h:Zl a b)(k:Zl b c):Zl a c:=⟨k.1.trans h.1,λj d=>(k.2 j (by rw[h.2 j d];exact d)).trans (h.2 j d)⟩
theorem Zl.set{e:List cL}{j:Nat}(h:(e.getD j ByteArray.empty).size=0)(x:cL):Zl e (e.set j x):=by
 refine⟨by simp,λi b=>?_⟩;by_cases a:j=i
 ·subst a;exact absurd h b
 ·rw[aq,aq,List.getElem?_set_ne a]
theorem Om{e c:List cL}(h:Zl e c){t:AG}(b:(AU e t).size≠0):AU c t=AU e t:=by
 unfold AU at b⊢;by_cases a:t.v=0
 ·rw[if_pos a,if_pos a]
 ·rw[if_neg a]at b⊢;rw[if_neg a];exact h.2 _ b
def BD(t:AG):Prop:=(t.v=0/\t.s.size≠0)\/(65<=t.v.toNat/\t.v.toNat<=90)
theorem BD.unset{e:List cL}{t:AG}(h:BD t)(a:(AU e t).size=0):t.v≠0/\65<=t.v.toNat/\t.v.toNat<=90/\(e.getD (t.v.toNat-65) ByteArray.empty).size=0:=by
 rcases h with⟨c,b⟩|⟨b,d⟩
 ·unfold AU at a;rw[if_pos c]at a;exact absurd a b
 ·have c:t.v≠0:=λh=>by rw[h]at b;exact absurd b (by decide)
  unfold AU at a;rw[if_neg c]at a;exact⟨c,b,d,a⟩
theorem XN{e:List cL}{t:AG}(c:e.length=26)(a:t.v≠0)(b:65<=t.v.toNat)(d:t.v.toNat<=90)(x:cL):AU (e.set (t.v.toNat-65) x) t=x:=by
 unfold AU;rw[if_neg a,aq,dO (by omega)];rfl
theorem F7:∀(a:List AG) (b:List cL) (e c:List cL),e.length=26->a.length=b.length->(∀t∈a,BD t)->(∀x∈b,x.size≠0)->Cu e a b=(c,true)->Zl e c/\a.map (AU c)=b
 |[],[],e,c,_,_,_,_,h=>by
  simp only[Cu,aY]at h;rw[<-h.1];exact⟨Zl.refl e,rfl⟩
 |[],_::_,_,_,_,h,_,_,_=>by simp at h
 |_::_,[],_,_,_,h,_,_,_=>by simp at h
 |t::a,x::b,e,c,he,hl,hg,hx,h=>by
  rw[Cu]at h;have n:a.length=b.length:=by simpa using hl
  have o:∀t∈a,BD t:=λu j=>hg u (by simp[j])
  have l:∀x∈b,x.size≠0:=λu j=>hx u (by simp[j])
  have m:=hx x (by simp);by_cases k:QR (AU e t)=true
  ·rw[if_pos k]at h;obtain⟨r,q,p,s⟩:=(hg t (by simp)).unset ((DG _).1 k);obtain⟨d,g⟩:=F7 a b (e.set (t.v.toNat-65) x) c (by simp[he]) n o l h;have f:=XN he r q p x;refine⟨(Zl.set s x).trans d,?_⟩;rw[aI,g,Om d (by rw[f];exact m),f]
  ·rw[if_neg k]at h;by_cases i:((AU e t).toList==x.toList)=true
   ·rw[if_pos i]at h;obtain⟨d,g⟩:=F7 a b e c he n o l h;have f:=(D4 _ _).1 i;refine⟨d,?_⟩;rw[aI,g,Om d (by rw[f];exact m),f]
   ·rw[if_neg i]at h;simp at h
def EC(σ:UInt8->cL)(t:AG):cL:=if t.v=0 then t.s else σ t.v
def DI(e:List cL)(σ:UInt8->cL):Prop:=e.length=26/\∀v:UInt8,65<=v.toNat->v.toNat<=90->(e.getD (v.toNat-65) ByteArray.empty).size=0\/e.getD (v.toNat-65) ByteArray.empty=σ v
theorem DI.val{e:List cL}{σ:UInt8->cL}(h:DI e σ){t:AG}(g:BD t)(d:(AU e t).size≠0):AU e t=EC σ t:=by
 unfold AU at d⊢;unfold EC;by_cases a:t.v=0
 ·rw[if_pos a,if_pos a]
 ·rw[if_neg a]at d⊢;rw[if_neg a];rcases g with⟨b,_⟩|⟨b,f⟩
  ·exact absurd b a
  ·rcases h.2 t.v b f with c|c
   ·exact absurd c d
   ·exact c
theorem DI.set{e:List cL}{σ:UInt8->cL}(h:DI e σ){v:UInt8}(f:65<=v.toNat)(d:v.toNat<=90):DI (e.set (v.toNat-65) (σ v)) σ:=by
 refine⟨by simp[h.1],λu a b=>?_⟩;by_cases c:v.toNat-65=u.toNat-65
 ·have:v=u:=bQ.1 (by omega);subst this;right;rw[aq,dO (by rw[h.1];omega)];rfl
 ·rw[aq,List.getElem?_set_ne c,<-aq];exact h.2 u a b
theorem IS(σ:UInt8->cL):∀(a:List AG) (e:List cL),DI e σ->(∀t∈a,BD t/\(EC σ t).size≠0)->∃f,Cu e a (a.map (EC σ))=(f,true)/\DI f σ
 |[],e,h,_=>⟨e,rfl,h⟩
 |t::a,e,h,hg=>by
  rw[aI,Cu];have g:∀u∈a,BD u/\(EC σ u).size≠0:=λu l=>hg u (by simp[l])
  obtain⟨d,o⟩:=hg t (by simp);by_cases b:QR (AU e t)=true
  ·rw[if_pos b];obtain⟨m,k,i,n⟩:=d.unset ((DG _).1 b);(have c:EC σ t=σ t.v:=by unfold EC;rw[if_neg m]);rw[c];exact IS σ a _ (h.set k i) g
  ·rw[if_neg b];have c:=h.val d (λj=>b ((DG _).2 j));rw[if_pos (by rw[c];simp)];exact IS σ a e h g
theorem Pz:∀(l m:List cL),Gm l m=true↔l=m
 |[],[]=>by simp[Gm]
 |[],_::_=>by simp[Gm]
 |_::_,[]=>by simp[Gm]
 |x::l,y::m=>by
  rw[Gm,aO,D4,Pz l m];simp
theorem Jp(a b:Aj):F5 a b=true↔a=b:=by
 obtain⟨d,f⟩:=a;obtain⟨e,c⟩:=b;unfold F5;rw[aO,D4,Pz];simp
def AI(e:List cL)(A:CQ):Aj:=⟨A.name,A.args.map (AU e)⟩
def BJ(σ:UInt8->cL)(A:CQ):Aj:=⟨A.name,A.args.map (EC σ)⟩
def Du(e:List cL)(A:CQ)(f:Aj):List cL×Bool:=if(A.name.toList==f.name.toList)&&(A.args.length==f.args.length)then Cu e A.args f.args else(e,false)
def JW(e:List cL)(A:CQ)(f:Aj):Option (List cL):=if(Du e A f).2 then some (Du e A f).1 else none
def CG(s:List Aj)(l:List (List cL))(x:By):List (List cL):=if x.kind==97 then l.flatMap (λe=>s.filterMap (JW e x.A))else l
def Fq(s:List Aj)(f:Aj):Bool:=s.any λg=>F5 g f
theorem CD(s:List Aj)(f:Aj):Fq s f=true↔f∈s:=by
 unfold Fq;rw[bI];constructor
 ·rintro ⟨g,a,h⟩;rw[Jp]at h;rw[<-h];exact a
 ·intro h;exact⟨f,h,(Jp f f).2 rfl⟩
def C1(fact:CQ->Aj)(val:AG->cL)(s:List Aj)(x:By):Bool:=
 if x.kind==97 then Fq s (fact x.A)else if x.kind==33 then !Fq s (fact x.A)else if x.kind==61 then(val x.L).toList==(val x.R).toList else if x.kind==35 then !((val x.L).toList==(val x.R).toList)else ES (val x.L) (val x.R)
def Dr:List cL:=List.replicate 26 ByteArray.empty
def Cb(body:List By)(s:List Aj):List (List cL):=(body.foldl (CG s) [Dr]).filter λe=>body.all λx=>x.kind==97||C1 (AI e) (AU e) s x
def KE(f:Aj):Prop:=∀x∈f.args,x.size≠0
theorem PP{e d:List cL}{A:CQ}{f:Aj}(h:JW e A f=some d):A.name=f.name/\A.args.length=f.args.length/\Cu e A.args f.args=(d,true):=by
 unfold JW Du at h;by_cases c:((A.name.toList==f.name.toList)&&(A.args.length==f.args.length))=true
 ·rw[if_pos c]at h;rw[aO]at c;cases hm:Cu e A.args f.args with
  |mk a b=>
   rw[hm]at h;cases b with
   |false=>simp at h
   |true=>
    simp at h;exact⟨(D4 _ _).1 c.1,by simpa using c.2,by rw[h]⟩
 ·rw[if_neg c]at h;simp at h
theorem Zd{e a:List cL}{A:CQ}{f:Aj}(d:A.name=f.name)(c:A.args.length=f.args.length)(g:Cu e A.args f.args=(a,true)):JW e A f=some a:=by
 have h:((A.name.toList==f.name.toList)&&(A.args.length==f.args.length))=true:=by
  rw[aO,D4];exact⟨d,by simpa using c⟩
 have b:Du e A f=(a,true):=by
  unfold Du;rw[if_pos h,g]
 unfold JW;rw[b];rfl
theorem DK{s:List Aj}(n:∀f∈s,KE f):∀(g:List By) (l:List (List cL)),(∀e∈l,e.length=26)->(∀x∈g,(x.kind==97)=true->∀t∈x.A.args,BD t)->
  ∀a∈g.foldl (CG s) l,a.length=26/\∃e∈l,Zl e a/\∀x∈g,(x.kind==97)=true->AI a x.A∈s/\∀t∈x.A.args,(AU a t).size≠0
 |[],l,hl,_,a,he'=>⟨hl a he',a,he',Zl.refl a,λx K=>by simp at K⟩
 |x::g,l,hl,hg,a,he'=>by
  rw[aR]at he';have w:∀x∈g,(x.kind==97)=true->∀t∈x.A.args,BD t:=λy c=>hg y (by simp[c])
  by_cases j:(x.kind==97)=true
  ·have D:∀b∈CG s l x,∃e∈l,∃f∈s,JW e x.A f=some b:=by
    intro b k;unfold CG at k;rw[if_pos j]at k;obtain⟨e,d,F⟩:=bh.1 k;obtain⟨f,h,m⟩:=cD.1 F;exact⟨e,d,f,h,m⟩
   have I:∀b∈CG s l x,b.length=26:=by
    intro b k;obtain⟨e,d,f,h,m⟩:=D b k;obtain⟨_,r,v⟩:=PP m;rw[(F7 _ _ _ _ (hl e d) r (hg x (by simp) j) (n f h) v).1.1,hl e d]
   obtain⟨u,b,J,p,q⟩:=DK n g (CG s l x) I w a he';obtain⟨e,d,f,h,m⟩:=D b J;obtain⟨H,r,v⟩:=PP m;obtain⟨E,B⟩:=F7 _ _ _ _ (hl e d) r (hg x (by simp) j) (n f h) v;(have C:∀t∈x.A.args,(AU b t).size≠0:=λt i=>n f h _ (by rw[<-B];exact aM i));(have z:∀t∈x.A.args,AU a t=AU b t:=λt i=>Om p (C t i));refine⟨u,e,d,E.trans p,λy c o=>?_⟩;rcases aj.1 c with rfl|c
   ·refine⟨?_,λt i=>by rw[z t i];exact C t i⟩;have:AI a y.A=f:=by
     unfold AI;rw[bT z,B,H]
    rw[this];exact h
   ·exact q y c o
  ·(have G:CG s l x=l:=by unfold CG;rw[if_neg j]);rw[G]at he';obtain⟨u,e,d,p,q⟩:=DK n g l hl w a he';refine⟨u,e,d,p,λy c o=>?_⟩;rcases aj.1 c with rfl|c
   ·exact absurd o j
   ·exact q y c o
theorem IX{s:List Aj}(σ:UInt8->cL):∀(a:List By) (l:List (List cL)) (e:List cL),e∈l->DI e σ->(∀x∈a,(x.kind==97)=true->(∀t∈x.A.args,BD t/\(EC σ t).size≠0)/\BJ σ x.A∈s)->
  ∃m∈a.foldl (CG s) l,DI m σ
 |[],l,e,he,ha,_=>⟨e,he,ha⟩
 |x::a,l,e,he,ha,hb=>by
  rw[aR];have c:∀y∈a,(y.kind==97)=true->(∀t∈y.A.args,BD t/\(EC σ t).size≠0)/\BJ σ y.A∈s:=λy h=>hb y (by simp[h])
  by_cases b:(x.kind==97)=true
  ·obtain⟨j,g⟩:=hb x (by simp) b;obtain⟨d,k,i⟩:=IS σ x.A.args e ha j;refine IX σ a _ d ?_ i c;unfold CG;rw[if_pos b];exact bh.2 ⟨e,he,cD.2 ⟨_,g,Zd rfl (by simp[BJ]) k⟩⟩
  ·(have f:CG s l x=l:=by unfold CG;rw[if_neg b]);rw[f];exact IX σ a l e he ha c
theorem DI.start(σ:UInt8->cL):DI Dr σ:=by
 refine⟨rfl,λv a b=>Or.inl ?_⟩;unfold Dr;rw[aq,List.getElem?_replicate];split<;>rfl
def FQ(body:List By)(t:AG):Prop:=t.v=0\/∃x∈body,(x.kind==97)=true/\∃u∈x.A.args,u.v=t.v
def QI(e:List cL)(v:UInt8):cL:=e.getD (v.toNat-65) ByteArray.empty
theorem R6(e:List cL)(t:AG):EC (QI e) t=AU e t:=rfl
theorem Qn{s:List Aj}(k:∀f∈s,KE f){b:List By}(l:∀x∈b,(x.kind==97)=true->∀t∈x.A.args,BD t){e:List cL}(a:e∈Cb b s):
  ∀x∈b,C1 (AI e) (AU e) s x=true:=by
 unfold Cb at a;obtain⟨i,g⟩:=aJ.1 a;obtain⟨_,_,_,_,j⟩:=DK k b [Dr] (λe a=>by simp at a;rw[a];rfl) l e i;intro x d;by_cases c:(x.kind==97)=true
 ·unfold C1;rw[if_pos c];exact(CD _ _).2 (j x d c).1
 ·have:=(cI.1 g) x d;simp only[bN]at this;rcases this with h|h
  ·exact absurd h c
  ·exact h
theorem RT{s:List Aj}(o:∀f∈s,KE f){a:List By}(l:∀x∈a,(x.kind==97)=true->∀t∈x.A.args,BD t)(σ:UInt8->cL)(p:∀x∈a,C1 (BJ σ) (EC σ) s x=true)
  (C:∀x∈a,(x.kind==97)=false->((x.kind==33)=true->∀t∈x.A.args,FQ a t)/\((x.kind==33)=false->FQ a x.L/\FQ a x.R)):
  ∃e∈Cb a s,∀t,FQ a t->AU e t=EC σ t:=by
 have r:∀x∈a,(x.kind==97)=true->(∀t∈x.A.args,BD t/\(EC σ t).size≠0)/\BJ σ x.A∈s:=by
  intro x c b;have h:=p x c;unfold C1 at h;rw[if_pos b,CD]at h;exact⟨λt g=>⟨l x c b t g,o _ h _ (aM g)⟩,h⟩
 obtain⟨e,i,B⟩:=IX σ a [Dr] Dr (by simp) (DI.start σ) r;obtain⟨_,_,_,_,q⟩:=DK o a [Dr] (λe i=>by simp at i;rw[i];rfl) l e i;have j:∀t,FQ a t->AU e t=EC σ t:=by
  intro t g;rcases g with d|⟨x,c,b,u,n,z⟩
  ·unfold AU EC;rw[if_pos d,if_pos d]
  ·have w:=(q x c b).2 u n;have k:=B.val (l x c b u n) w;unfold AU EC at k⊢;rw[<-z];by_cases d:u.v=0
   ·rw[if_pos d,if_pos d]
   ·rw[if_neg d,if_neg d]at k⊢;exact k
 refine⟨e,?_,j⟩;unfold Cb;refine aJ.2 ⟨i,cI.2 λx c=>?_⟩;cases b:(x.kind==97)with
 |true=>rfl
 |false=>
  obtain⟨y,m⟩:=C x c b;rw[cU,<-p x c];unfold C1;simp only[b,Z8,if_false];cases hk2:(x.kind==33)with
  |true=>
   simp only[if_true];have:AI e x.A=BJ σ x.A:=by
    unfold AI BJ;rw[bT (λt g=>j t (y hk2 t g))]
   rw[this]
  |false=>
   simp only[Z8,if_false];rw[j _ (m hk2).1,j _ (m hk2).2]
def Al(c:Bf):List By:=c.bl.map Prod.fst
def GP(c:Bf)(σ:UInt8->cL):W6 Aj:=
 ⟨((Al c).filter λx=>x.kind==97).map λx=>BJ σ x.A,((Al c).filter λx=>x.kind==33).map λx=>BJ σ x.A,BJ σ c.head⟩
def WV(c:Bf)(σ:UInt8->cL):Prop:=∀x∈Al c,(x.kind==97)=false->(x.kind==33)=false->C1 (BJ σ) (EC σ) [] x=true
def EF(cs:List Bf)(i:W6 Aj):Prop:=∃c∈cs,∃σ,WV c σ/\i=GP c σ
theorem SH{f:CQ->Aj}{v:AG->cL}{s t:List Aj}{x:By}(a:(x.kind==97)=false)(b:(x.kind==33)=false):C1 f v s x=C1 f v t x:=by
 unfold C1;rw[a,b];rfl
theorem Hy(c:Bf)(σ:UInt8->cL)(s:List Aj):(∀x∈Al c,C1 (BJ σ) (EC σ) s x=true)↔Ir (GP c σ) (·∈s) (·∈s)/\WV c σ:=by
 constructor
 ·intro h;refine⟨⟨λg i=>?_,λg i l=>?_⟩,λx a f e=>?_⟩
  ·obtain⟨x,a,rfl⟩:=az.1 i;obtain⟨a,b⟩:=aJ.1 a;have d:=h x a;unfold C1 at d;rw[if_pos b,CD]at d;exact d
  ·obtain⟨x,a,rfl⟩:=az.1 i;obtain⟨a,b⟩:=aJ.1 a;have d:=h x a;have j:(x.kind==97)=false:=by
    (have:x.kind=33:=by simpa using b);rw[this];rfl
   unfold C1 at d;rw[if_neg (by rw[j];simp),if_pos b,(CD _ _).2 l]at d;cases d
  ·rw[SH f e (t:=s)];exact h x a
 ·rintro ⟨⟨f,e⟩,k⟩ x a;cases b:(x.kind==97)with
  |true=>
   unfold C1;rw[b,if_pos rfl,CD];exact f _ (az.2 ⟨x,aJ.2 ⟨a,b⟩,rfl⟩)
  |false=>
   cases hk2:(x.kind==33)with
   |true=>
    unfold C1;rw[b,hk2,if_neg (by simp),if_pos rfl];cases d:Fq s (BJ σ x.A)with
    |false=>rfl
    |true=>exact absurd ((CD _ _).1 d) (e _ (az.2 ⟨x,aJ.2 ⟨a,hk2⟩,rfl⟩))
   |false=>
    rw[SH b hk2 (t:=[])];exact k x a b hk2
structure QZ(cs:List Bf):Prop where
 args:∀c∈cs,∀x∈Al c,(x.kind==97)=true->∀t∈x.A.args,BD t
 safe:∀c∈cs,∀x∈Al c,(x.kind==97)=false->((x.kind==33)=true->∀t∈x.A.args,FQ (Al c) t)/\((x.kind==33)=false->FQ (Al c) x.L/\FQ (Al c) x.R)
 head:∀c∈cs,∀t∈c.head.args,FQ (Al c) t
structure Dt(cs:List Bf)(lev:cL->Nat):Prop where
 pos:∀c∈cs,∀x∈Al c,(x.kind==97)=true->lev x.A.name<=lev c.head.name
 neg:∀c∈cs,∀x∈Al c,(x.kind==33)=true->lev x.A.name<lev c.head.name
theorem Dt.layered{cs:List Bf}{j:cL->Nat}(h:Dt cs j):Jz (EF cs) (λf=>j f.name):=by
 refine⟨?_,?_⟩
 ·rintro i ⟨c,e,σ,_,rfl⟩ g d;obtain⟨x,a,rfl⟩:=az.1 d;obtain⟨a,b⟩:=aJ.1 a;exact h.pos c e x a b
 ·rintro i ⟨c,e,σ,_,rfl⟩ g d;obtain⟨x,a,rfl⟩:=az.1 d;obtain⟨a,b⟩:=aJ.1 a;exact h.neg c e x a b
theorem XW{cs:List Bf}{a:cL->Nat}(k:Dt cs a)(v:QZ cs){n:Nat}{b s:List Aj}(t:C5 (EF cs) (λf=>a f.name) n (·∈s))(w:∀f∈b,f∈s)(r:∀f∈s,f∈b\/a f.name=n)(p:∀f∈b,KE f)
  {c:Bf} (o:c∈cs) (m:a c.head.name=n) {e:List cL} (x:e∈Cb (Al c) b):C5 (EF cs) (λf=>a f.name) n (λf=>f∈s\/f=AI e c.head):=by
 have q:=Qn p (v.args c o) x;have i:Ir (GP c (QI e)) (·∈b) (·∈b)/\WV c (QI e):=(Hy c (QI e) b).1 q;have l:EF cs (GP c (QI e)):=⟨c,o,QI e,i.2,rfl⟩;have j:(GP c (QI e)).head=AI e c.head:=rfl;have:=t.step (EF cs) (λf=>a f.name) k.layered l (by rw[j];exact m) ⟨λg d=>w g (i.1.1 g d),λg d u=>by
  rcases r g u with h|h
  ·exact i.1.2 g d h
  ·have z:a g.name<a (GP c (QI e)).head.name:=k.layered.neg _ l g d
   have y:a (GP c (QI e)).head.name=n:=by rw[j];exact m
   omega⟩
 rw[j]at this;exact this
theorem Wz{cs:List Bf}{a:cL->Nat}(d:QZ cs){n:Nat}{s:List Aj}(j:C5 (EF cs) (λf=>a f.name) n (·∈s))(u:∀f∈s,KE f)
  (h:∀c∈cs,a c.head.name=n->∀e∈Cb (Al c) s,AI e c.head∈s):C5 (EF cs) (λf=>a f.name) (n+1) (·∈s):=by
 refine j.next (EF cs) (λf=>a f.name) ?_;rintro i ⟨c,b,σ,o,rfl⟩ v r;have m:=(Hy c σ s).2 ⟨r,o⟩;obtain⟨e,k,l⟩:=RT u (d.args c b) σ m (d.safe c b);have g:=h c b v e k;have q:AI e c.head=BJ σ c.head:=by
  unfold AI BJ;rw[bT (λt p=>l t (d.head c b t p))]
 rw[q]at g;exact g
theorem Yd{cs:List Bf}{a b:cL->Nat}(o:Dt cs a)(n:Dt cs b){h k:Nat}{M N:Aj->Prop}(l:C5 (EF cs) (λf=>a f.name) h M)(q:C5 (EF cs) (λf=>b f.name) k N)(m:∀c∈cs,a c.head.name<h)(p:∀c∈cs,b c.head.name<k):∀f,M f↔N f:=by
 have j:=l.done (EF cs) (λf=>a f.name) (λi e=>by obtain⟨c,d,σ,_,rfl⟩:=e;exact m c d);have g:=q.done (EF cs) (λf=>b f.name) (λi e=>by obtain⟨c,d,σ,_,rfl⟩:=e;exact p c d);exact V3 (EF cs) _ _ o.layered n.layered j.1 j.2 g.1 g.2
theorem Jn{w:World}{v:Value}{cs:List Bf}(h:Cl w v cs)(k:Nat)(d:k<cs.length):
  ∃g r a i f e j b l,v= .slice (some ⟨g,0,none⟩) cs.length r/\cs[k]=⟨a, .slice i a.args.length f, .slice e b.length j,b,l⟩/\TF w ⟨a, .slice i a.args.length f, .slice e b.length j,b,l⟩/\
   w.cell? ⟨g,k*5,none⟩=some (.string a.name)/\w.cell? ⟨g,k*5+1,none⟩=some (.slice i a.args.length f)/\w.cell? ⟨g,k*5+2,none⟩=some (.int .i64 a.at_)/\w.cell? ⟨g,k*5+3,none⟩=some (.slice e b.length j):=by
 obtain⟨g,r,y,_,m⟩:=AE h.row (λc _=>BB c) k d;have n:=h.each _ (Z7 d);have s:=m k d 0 (by omega);have q:=m k d 1 (by omega);have o:=m k d 2 (by omega);have p:=m k d 3 (by omega);obtain⟨⟨a,z,A,b,l⟩,x⟩:∃c,cs[k]=c:=⟨_,rfl⟩;rw[x]at s q o p n;obtain⟨i,f,u⟩:=Ak n.args;obtain⟨e,j,t⟩:=Ak n.body;simp only at u t;subst u t;simp[Co]at s q o p;exact⟨g,r,a,i,f,e,j,b,l,y,x,n,s,q,o,p⟩
theorem Tryz.info3:(Tryz.prog.info? 3).map (λi=>(i.zero,i.size,i.bytes))=some (some (.int .i64 0),1,8):=by kernel_rfl
def BG(n:Nat):List Value:=[.int .i64 n]
theorem Tr(f:cL->Nat)(A:Nat)(O:Option Addr)(L:Nat)(cs:List Bf)(w:World)(J:Aw w A [.slice O cs.length L] 76)(K:Cl w (.slice O cs.length L) cs)(FP:cs.length<=1000)
  (G:∀(x:cL) (z:World),Ac [] w z->Calls prog 190 #[.pointer (some ⟨A,0,none⟩), .string x, .int .i64 6] z λe n=>e= .returned (.int .i64 (f x))/\Ac [] z n):
  Calls prog 155 #[.pointer (some ⟨A,0,none⟩)] w λe n=>∃b d,e= .returned (.slice b cs.length d)/\n.ownsRow w.heap.size 3 1 (.slice b cs.length d) cs.length ((cs.map λc=>f c.head.name).flatMap BG)/\Ac [] w n:=by
 obtain⟨i0,EK,V,AH,BA⟩:=bj Tryz.info3;have HP:=Ab J;have P:=Ab K;have AT:=Ab G;clear J K G;go_enter func155,ntmps155;go_wp2
 go_loopg [3,4] cs.length (λgk o i wr=>∃(k:Nat) (a:List Nat) (b:Option Addr) (d:Nat),o= .slice b a.length d/\i= .int .i64 k/\k<=cs.length/\gk=cs.length-k/\a.length<=1000/\Hid (a=(cs.take k).map λc=>f c.head.name)/\wr.ownsRow w.heap.size 3 1 (.slice b a.length d) a.length (a.flatMap BG)/\Hid (Ac [] w wr))
 case atStart=>exact⟨0,[],none,0,rfl,rfl,by omega,rfl,by simp,by show _=_;simp,ax _ _ _ _,Ac.refl _ _⟩
 case round=>
  obtain⟨k,a,b,d,rfl,rfl,hk,F,HC,y,s,j⟩:=hrel;have Y:=Ab F;clear F;have H:=((Aa HP).kept (Aa j) (by simp)).cell 0;simp at H;have HB:=(Aa j).size;by_cases C:k<cs.length
  ·obtain⟨g,FL,m,FW,FO,FA,HD,bl,a5,I,M,B9,d0,d1,Q,R⟩:=Jn ((Aa P).kept (Aa j)) k C;simp only[Z6]at I;obtain⟨rfl,_,rfl⟩:=I;have u:=Ab (Aa AT m.name wr (Aa j));have B:Hid (a++[f m.name]=(cs.take (k+1)).map λc=>f c.head.name):=by
    show _=_;rw[ac C,bm,Aa y,M];rfl
   (have E:(a++[f m.name]).length<=1000:=by rw[Aa B];simp;omega);generalize f m.name=v at u B E;clear B9 M d1 Q R y;(go_wp2_with fail);refine(Aa u).mono ?_;rintro e p ⟨rfl,r⟩;have CL:=Ab ((Aa j).trans r);have D:=Ad s r (by simp);have EY:=r.size;(have X:Hid (∀l,(p.alloc (.cells #[.int .i64 v] 3)).grownBy l (Value.slice b a.length d).ownBlock->Ac [] w l):=λl W=>((Aa CL).alloc _).grown W (λq Z=>Or.inr ((D.lt q Z).1)));clear u r H d0 s;go_wp2_with (at_builtin;refine ay _ rfl (.tmp 14) (.tmp 26) _ rfl w.heap.size 3 i0 _ 1 8 underlying221 EK V AH BA rfl (by omega) (.slice b a.length d) a.length (a.flatMap BG) rfl (ah D _) ⟨p.heap.size,0,none⟩ 1 1 [.int .i64 v] rfl rfl (aF (cs:=#[.int .i64 v]) (t:=3) (fr:=(0,0)) (aS p _)) (by simp[Value.oneCell']) (by omega) (by unfold maxLen;omega) (by omega) (by simp;omega) (p.heap.size+1) (by simp) ?_;intro T U l S CC Ha Go)
   go_roundg (cs.length-(k+1))
   case measure=>have:=Aa Y;omega
   case rel=>exact⟨k+1,a++[v],some ⟨T,0,none⟩,U,by simp,by go_num,by omega,rfl,E,B,by simpa[BG] using S,Aa X l CC⟩
  ·have N:Hid (a=cs.map λc=>f c.head.name):=by
    have h:=Aa y;rw[Z9 (by omega)]at h;exact h
   (have Ax:Hid (cs.length=a.length):=by show _=_;rw[Aa N];simp);go_wp2;go_ret;rw[Aa Ax,<-Aa N];exact⟨b,d,rfl,s,Aa j⟩
def Lc(f:cL->Nat)(p:Bm):Nat:=if p.1.kind==97 then f p.1.A.name else if p.1.kind==33 then f p.1.A.name+1 else 0
def G6(f:cL->Nat)(n:Nat)(bl:List Bm):Nat:=bl.foldl (λn p=>max n (Lc f p)) n
def IG(f:cL->Nat)(x:cL)(n:Nat)(c:Bf):Nat:=if c.head.name.toList==x.toList then G6 f n c.bl else n
def BV(cs:List Bf):Nat->cL->Nat
 |0,_=>0
 |d+1,x=>cs.foldl (IG (BV cs d) x) 0
theorem UD{f:cL->Nat}{b:Nat}(c:∀y,f y+1<=b):∀(a:List Bm) (n:Nat),n<=b->G6 f n a<=b
 |[],n,h=>h
 |p::a,n,h=>by
  unfold G6;rw[aR];refine UD c a _ ?_;have:Lc f p<=b:=by
   unfold Lc;have:=c p.1.A.name;split
   ·omega
   ·split
    ·omega
    ·omega
  omega
theorem QG(cs:List Bf):∀(d:Nat) (x:cL),BV cs d x<=d
 |0,_=>au _
 |d+1,x=>by
  rw[BV];have a:∀(l:List Bf) (n:Nat),n<=d+1->l.foldl (IG (BV cs d) x) n<=d+1:=by
   intro l
   induction l with
   |nil=>intro n h;exact h
   |cons c l ih=>
    intro n h;rw[aR];refine ih _ ?_;unfold IG;split
    ·exact UD (λy=>by have:=QG cs d y;omega) c.bl n h
    ·exact h
  exact a cs 0 (by omega)
theorem Vt(f:cL->Nat)(n:Nat){a:List Bm}{k:Nat}(b:k<a.length):G6 f n (a.take (k+1))=max (G6 f n (a.take k)) (Lc f a[k]):=by
 unfold G6;rw[ac b,bD];rfl
theorem WI(f:cL->Nat)(x:cL){cs:List Bf}{k:Nat}(a:k<cs.length):(cs.take (k+1)).foldl (IG f x) 0=IG f x ((cs.take k).foldl (IG f x) 0) cs[k]:=by
 rw[ac a,bD];rfl
theorem T5{w:World}{C:Value}{d:List Bm}(h:w.ownsRow 0 95 9 C d.length (d.flatMap Bc))(D:∀p∈d,BS w 0 p)(k:Nat)(a:k<d.length):
  ∃g m x e f,C= .slice (some ⟨g,0,none⟩) d.length m/\d[k]=(x, .slice e x.A.args.length f)/\BS w 0 (x, .slice e x.A.args.length f)/\
   w.cell? ⟨g,k*9,none⟩=some (.int .u8 x.kind.toNat)/\w.cell? ⟨g,k*9+1,none⟩=some (.string x.A.name)/\w.cell? ⟨g,k*9+2,none⟩=some (.slice e x.A.args.length f)/\w.cell? ⟨g,k*9+3,none⟩=some (.int .i64 x.A.at_)/\
   w.cell? ⟨g,k*9+4,none⟩=some (.int .u8 x.L.v.toNat)/\w.cell? ⟨g,k*9+5,none⟩=some (.string x.L.s)/\w.cell? ⟨g,k*9+6,none⟩=some (.int .u8 x.R.v.toNat)/\w.cell? ⟨g,k*9+7,none⟩=some (.string x.R.s)/\w.cell? ⟨g,k*9+8,none⟩=some (.int .i64 x.at_):=by
 obtain⟨g,m,E,_,b⟩:=AE h (λc _=>BF c) k a;have r:=D _ (Z7 a);have q:=b k a 0 (by omega);have l:=b k a 1 (by omega);have i:=b k a 2 (by omega);have j:=b k a 3 (by omega);have y:=b k a 4 (by omega);have t:=b k a 5 (by omega);have o:=b k a 6 (by omega);have n:=b k a 7 (by omega);have u:=b k a 8 (by omega);obtain⟨⟨x,F⟩,B⟩:∃c,d[k]=c:=⟨_,rfl⟩;rw[B]at q l i j y t o n u r;obtain⟨e,f,z⟩:=Ak r;simp only at z;subst z;simp[Bc,Bq]at q l i j y t o n u;exact⟨g,m,x,e,f,E,B,r,q,l,i,j,y,t,o,n,u⟩
theorem TA(f:Nat)(d:Option Addr)(c:Nat)(cs:List Bf)(m:cs.length<=1000)(x:cL)(w:World)(b:Aw w f [.slice d cs.length c] 76)(h:Cl w (.slice d cs.length c) cs):
  Calls prog 190 #[.pointer (some ⟨f,0,none⟩), .string x, .int .i64 0] w λe g=>e= .returned (.int .i64 (BV cs 0 x))/\Ac [] w g:=by
 have j:=b.cell 0;simp at j;have a:Hid (BV cs 0 x=0):=rfl;generalize BV cs 0 x=R at a⊢;clear b h;go_enter func190,ntmps190;go_wp2
 go_loopg [7,8] 1 (λgk n i wr=>n= .int .i64 0/\i= .int .i64 0/\wr=w)
 case atStart=>exact⟨rfl,rfl,rfl⟩
 case round=>
  obtain⟨rfl,rfl,rfl⟩:=hrel;by_cases l:0<cs.length
  ·(have k:(0:Int)<(cs.length:Int):=by omega);go_wp2;go_ret;rw[Aa a];exact⟨rfl,Ac.refl _ _⟩
  ·(have k:¬(0:Int)<(cs.length:Int):=by omega);go_wp2;go_ret;rw[Aa a];exact⟨rfl,Ac.refl _ _⟩
theorem Uh(J:Nat)(HQ:Option Addr)(P:Nat)(cs:List Bf)(Jx:cs.length<=1000)(FO:∀c∈cs,c.bl.length<=1000)(d:Nat)(x:cL)(w:World)(hP:Aw w J [.slice HQ cs.length P] 76)(hR:Cl w (.slice HQ cs.length P) cs)(hd:d+1<=100)
  (Ax:Hid (∀(y:cL) (l:World),Ac [] w l->Calls prog 190 #[.pointer (some ⟨J,0,none⟩), .string y, .int .i64 d] l λe T=>e= .returned (.int .i64 (BV cs d y))/\Ac [] l T)):
  Calls prog 190 #[.pointer (some ⟨J,0,none⟩), .string x, .int .i64 ((d:Int)+1)] w λe T=>e= .returned (.int .i64 (BV cs (d+1) x))/\Ac [] w T:=by
 have CC:Hid (∀y,BV cs d y<=d):=λy=>QG cs d y
 have HP:=Ab hP;have W:=Ab hR;have H5:=Ab FO;obtain⟨R,z⟩:∃R,BV cs (d+1) x=R:=⟨_,rfl⟩;rw[z];rw[BV]at z;generalize BV cs d=f at Ax CC z;have H3:=Ab z;clear hP hR FO z;have K3:(0:Int)<(d:Int)+1:=by omega
 go_enter func190,ntmps190;go_wp2
 go_loopg [7,8] cs.length (λgk o i wr=>∃(k n:Nat),o= .int .i64 n/\i= .int .i64 k/\k<=cs.length/\gk=cs.length-k/\Hid ((cs.take k).foldl (IG f x) 0=n)/\Hid (Ac [] w wr))
 case atStart=>exact⟨0,0,rfl,rfl,by omega,rfl,by show _=_;simp,Ac.refl _ _⟩
 case round=>
  obtain⟨k,n,rfl,rfl,hk,HD,H,C⟩:=hrel;have HG:=Ab HD;clear HD;have p0:=((Aa HP).kept (Aa C) (by simp)).cell 0;simp at p0;by_cases p:k<cs.length
  ·obtain⟨g,K5,I,H8,HU,FP,FA,a,a5,he,L,H7,d0,d1,d2,d3⟩:=Jn ((Aa W).kept (Aa C)) k p;simp only[Z6]at he;obtain⟨rfl,_,rfl⟩:=he;have t:=Ab (WI f x p);have FC:=Aa H5 _ (Z7 p);rw[L]at t FC;rw[Aa H]at t;simp only[IG]at t FC;cases hnm:(I.name.toList==x.toList)with
   |false=>
    have Q:Hid ((cs.take (k+1)).foldl (IG f x) 0=n):=by
     have h:=Aa t;rw[hnm]at h;exact h
    clear t H;go_wp2
    go_loopg [7,9] 1 (λgj o i N=>o= .int .i64 n/\i= .int .i64 0/\wr=N)
    case atStart=>exact⟨rfl,rfl,rfl⟩
    case round=>
     obtain⟨rfl,rfl,rfl⟩:=hrel;go_wp2
     go_roundg (cs.length-(k+1))
     case measure=>have:=Aa HG;omega
     case rel=>exact⟨k+1,n,rfl,by go_num,by omega,rfl,Q,C⟩
   |true=>
    have Q:Hid ((cs.take (k+1)).foldl (IG f x) 0=G6 f n a):=by
     have h:=Aa t;rw[hnm]at h;exact h
    clear t H;have H6:Hid (∀l,Ac [] w l->l.cell? ⟨g,k*5,none⟩=some (.string I.name)/\l.cell? ⟨g,k*5+3,none⟩=some (.slice FP a.length FA)/\l.cell? ⟨J,0,none⟩=some (.slice (some ⟨g,0,none⟩) cs.length P)/\TF l ⟨I, .slice H8 I.args.length HU, .slice FP a.length FA,a,a5⟩):=by
     intro l HH;have Z:=(Aa W).kept HH;obtain⟨g',JJ,AB,_,CL⟩:=AE Z.row (λc _=>BB c) k p;simp only[Z6,ai,aW]at AB;obtain⟨⟨rfl,_,_⟩,_,_⟩:=AB;have u:=CL k p 0 (by omega);have v:=CL k p 3 (by omega);have Y:=Z.each _ (Z7 p);rw[L]at u v Y;simp[Co]at u v;have pz:=((Aa HP).kept HH (by simp)).cell 0;exact⟨u,v,by simpa using pz,Y⟩
    go_wp2;clear H7 L d0 d1 d2 d3 p0
    go_loopg [7,9] a.length (λgj o i N=>∃(m b:Nat),o= .int .i64 b/\i= .int .i64 m/\m<=a.length/\gj=a.length-m/\Hid (G6 f n (a.take m)=b)/\Hid (Ac [] w N))
    case atStart=>exact⟨0,n,rfl,rfl,by omega,rfl,by show _=_;simp[G6],C⟩
    case round=>
     obtain⟨m,b,rfl,rfl,hm,AH,K,V⟩:=hrel;have F:=Ab AH;clear AH;obtain⟨u,v,zp,O⟩:=Aa H6 _ (Aa V);by_cases EK:m<a.length
     ·obtain⟨gb,K1,y,HJ,EX,FF,AT,H4,X,e1,e2,e3,e4,e5,e6,e7,e8⟩:=T5 O.body O.lits m EK;simp only[Z6]at FF;obtain⟨rfl,_,rfl⟩:=FF;have S:=Ab (Vt f n EK);rw[Aa K,AT]at S;have HY:=Aa CC y.A.name;have s:=Ab ((Aa V).alloc (.cells (Bq y (.slice HJ y.A.args.length EX)).toArray 95));have M:=Ab (Aw.new wr (Bq y (.slice HJ y.A.args.length EX)) 95);have q:=Ab (Aa Ax y.A.name _ (Aa s));clear AT H4 O K;simp only[Bq]at s M q;have r:Hid (G6 f n (a.take (m+1))=max b (if y.kind==97 then f y.A.name else if y.kind==33 then f y.A.name+1 else 0)):=Aa S;clear S;generalize f y.A.name=fy at q HY r;have EY:((y.kind.toNat:Int)==97)=(y.kind==97):=B8 _ 97;have U:((y.kind.toNat:Int)==33)=(y.kind==33):=B8 _ 33;cases hk97:(y.kind==97)with
      |true=>
       (have B:Hid (G6 f n (a.take (m+1))=max b fy):=by have h:=Aa r;rw[hk97]at h;exact h);rw[hk97]at EY;clear r hk97 U;(go_wp2_with fail);refine(Aa q).mono ?_;rintro e w5 ⟨rfl,D⟩;have E:=Ab ((Aa s).trans D);clear q s M D u v zp X e1 e2 e3 e4 e5 e6 e7 e8;by_cases H0:b<fy
       ·(have G:(b:Int)<(fy:Int):=by omega);(have j:Hid (G6 f n (a.take (m+1))=fy):=by show _=_;rw[Aa B];omega);go_wp2
        go_roundg (a.length-(m+1))
        case measure=>have:=Aa F;omega
        case rel=>exact⟨m+1,fy,rfl,by go_num,by omega,rfl,j,E⟩
       ·(have G:¬(b:Int)<(fy:Int):=by omega);(have j:Hid (G6 f n (a.take (m+1))=b):=by show _=_;rw[Aa B];omega);go_wp2
        go_roundg (a.length-(m+1))
        case measure=>have:=Aa F;omega
        case rel=>exact⟨m+1,b,rfl,by go_num,by omega,rfl,j,E⟩
      |false=>
       rw[hk97]at EY;cases hk33:(y.kind==33)with
       |true=>
        (have B:Hid (G6 f n (a.take (m+1))=max b (fy+1)):=by have h:=Aa r;rw[hk97,hk33]at h;exact h);rw[hk33]at U;clear r hk97 hk33;(go_wp2_with fail);refine(Aa q).mono ?_;rintro e w5 ⟨rfl,D⟩;have E:=Ab ((Aa s).trans D);clear q s M D u v zp X e1 e2 e3 e4 e5 e6 e7 e8;by_cases H0:b<fy+1
        ·(have G:(b:Int)<(fy:Int)+1:=by omega);(have j:Hid (G6 f n (a.take (m+1))=fy+1):=by show _=_;rw[Aa B];omega);go_wp2
         go_roundg (a.length-(m+1))
         case measure=>have:=Aa F;omega
         case rel=>exact⟨m+1,fy+1,by go_num,by go_num,by omega,rfl,j,E⟩
        ·(have G:¬(b:Int)<(fy:Int)+1:=by omega);(have j:Hid (G6 f n (a.take (m+1))=b):=by show _=_;rw[Aa B];omega);go_wp2
         go_roundg (a.length-(m+1))
         case measure=>have:=Aa F;omega
         case rel=>exact⟨m+1,b,rfl,by go_num,by omega,rfl,j,E⟩
       |false=>
        (have j:Hid (G6 f n (a.take (m+1))=b):=by have h:=Aa r;rw[hk97,hk33]at h;show _=_;rw[h];simp);rw[hk33]at U;clear r hk97 hk33 q;(have G:¬(b:Int)<0:=by omega);go_wp2
        go_roundg (a.length-(m+1))
        case measure=>have:=Aa F;omega
        case rel=>exact⟨m+1,b,rfl,by go_num,by omega,rfl,j,s⟩
     ·have j:Hid ((cs.take (k+1)).foldl (IG f x) 0=b):=by
       have h:=Aa K;rw[Z9 (by omega)]at h;show _=_;rw[Aa Q,h]
      clear K;go_wp2
      go_roundg (cs.length-(k+1))
      case measure=>have:=Aa HG;omega
      case rel=>exact⟨k+1,b,rfl,by go_num,by omega,rfl,j,V⟩
  ·have HE:Hid (n=R):=by
    have h:=Aa H;rw[Z9 (by omega),Aa H3]at h;exact h.symm
   go_wp2;go_ret;rw[<-Aa HE];exact⟨rfl,Aa C⟩
theorem WO(h:Nat)(g:Option Addr)(f:Nat)(cs:List Bf)(j:cs.length<=1000)(l:∀c∈cs,c.bl.length<=1000)(d:Nat):
  ∀(x:cL) (w:World),Aw w h [.slice g cs.length f] 76->Cl w (.slice g cs.length f) cs->d<=100->
  Calls prog 190 #[.pointer (some ⟨h,0,none⟩), .string x, .int .i64 d] w λe m=>e= .returned (.int .i64 (BV cs d x))/\Ac [] w m:=by
 induction d with
 |zero=>exact λx w a b _=>TA h g f cs j x w a b
 |succ d ih=>exact λx w a b k=>Uh h g f cs j l d x w a b k (λy n i=>ih y n (a.kept i (by simp)) (b.kept i) (by omega))
def Zm(e:List cL)(v:Nat)(s:cL):cL:=if v=0 then s else e.getD (v-65) ByteArray.empty
theorem Tw(b E:Nat)(e:List cL)(v:Nat)(s:cL)(w:World)(F:e.length=26)(o:Aw w b (Ah e) E)(p:v=0\/(65<=v/\v<=90)):
  Calls prog 180 #[.pointer (some ⟨b,0,none⟩), .agg [Value.int .i32 v, .string s].toArray] w λr f=>r= .returned (.string (Zm e v s))/\Ac [] w f:=by
 have x:=o.lt;have I:(Ah e).length=26:=by unfold Ah;simp[F]
 have q:Hid (∀i (h:i<26),(Ah e)[i]?=some (.string (e.getD i ByteArray.empty))):=by
  intro i h;unfold Ah;rw[cu,aq,aA (by omega)];rfl
 obtain⟨R,n⟩:∃R,Zm e v s=R:=⟨_,rfl⟩;rw[n];have m:Hid ((if v=0 then s else e.getD (v-65) ByteArray.empty)=R):=n;have k:=Ab ((Ac.refl [] w).alloc (.cells [.int .i32 v, .string s].toArray 215));have g:=Ab (o.alloc (.cells [.int .i32 v, .string s].toArray 215));clear n;by_cases a:v=0
 ·have c:Hid (s=R):=by have h:=Aa m;rw[if_pos a]at h;exact h
  subst a;go_enter func180,ntmps180;go_wp2;go_ret;rw[<-Aa c];exact⟨rfl,Aa k⟩
 ·have c:Hid (e.getD (v-65) ByteArray.empty=R):=by have h:=Aa m;rw[if_neg a]at h;exact h
  have C:65<=v/\v<=90:=by
   rcases p with h|h
   ·exact absurd h a
   ·exact h
  have z:((v:Int)==0)=false:=by rw[bc];omega
  obtain⟨j,t⟩:∃j,v-65=j:=⟨_,rfl⟩;have A:v=j+65:=by omega
  rw[t]at c;have y:j<26:=by omega
  subst A;have B:(((j+65:Nat)):Int)=(j:Int)+65:=by omega
  rw[B]at k g z⊢;have l:=(Aa g).cell j;rw[Aa q j y]at l;generalize e.getD j ByteArray.empty=X at c l;have d:=Aw.new w [.int .i32 ((j:Int)+65), .string s] 215;clear m t C p a o q;have K:(0:Int)<=(j:Int):=by omega
  have H:(j:Int)<26:=by omega
  have D:IntKind.i32.wrap (j:Int)=j:=by rw[IntKind.wrap_i32];omega
  have G:IntKind.i32.wrap ((j:Int)+65-65)=j:=by rw[show(j:Int)+65-65=j by omega];exact D
  go_enter func180,ntmps180;go_wp2;change Code.wp _ _ _ _ (w.alloc (.cells [.int .i32 ((j:Int)+65), .string s].toArray 215));generalize w.alloc (.cells [.int .i32 ((j:Int)+65), .string s].toArray 215)=w1 at k g d l⊢;generalize w.heap.size=N at d x⊢;have u:=d.cell 0;simp at u;have J:=Ab d;clear d g
  go_region_held3 (λf=>f.cell? ⟨b,j,none⟩=some (.string X)/\f.cell? ⟨N,0,none⟩=some (.int .i32 ((j:Int)+65))) (go_keep) (fail)
  go_wp2;all_goals
   go_ret;rw[<-Aa c];refine⟨rfl,?_⟩
   repeat (first|exact Aa k|refine Ac.drew ?_|refine Ac.alloc ?_ _|refine Ac.drewN ?_ _)
theorem KR{w:World}{base:Nat}{v:Value}{l:List AG}(h:w.ownsRow base 93 2 v l.length (l.flatMap Az))(k:Nat)(a:k<l.length):
  ∃g b,v= .slice (some ⟨g,0,none⟩) l.length b/\w.cell? ⟨g,k*2,none⟩=some (.int .u8 l[k].v.toNat)/\w.cell? ⟨g,k*2+1,none⟩=some (.string l[k].s):=by
 obtain⟨g,b,i,_,f⟩:=AE h (λc _=>Fr c) k a;have d:=f k a 0 (by omega);have e:=f k a 1 (by omega);simp[Az]at d e;exact⟨g,b,i,d,e⟩
structure R7(w:World)(N:Nat)(E:List Value)(nm:cL)(av:Value)(j:Nat)(ts:List AG)(fv:Value):Prop where
 b0:Aw w N E 90
 b1:Aw w (N+1) [.string nm,av, .int .i64 j] 79
 b2:Aw w (N+1+1) [.string ⟨#[]⟩, .slice none 0 0] 43
 b3:Aw w (N+1+1+1) [.string nm,fv] 43
 row:w.ownsRow 0 93 2 av ts.length (ts.flatMap Az)
 low:∀q,av.ownBlock=some q->q<N
theorem R7.kept{w w':World}{N:Nat}{E:List Value}{nm:cL}{b:Value}{j:Nat}{ts:List AG}{a:Value}(h:R7 w N E nm b j ts a)(k:Ac [] w w'):R7 w' N E nm b j ts a:=
 ⟨h.b0.kept k (by simp),h.b1.kept k (by simp),h.b2.kept k (by simp),h.b3.kept k (by simp),Ad h.row k (by simp),h.low⟩
theorem R7.grown{w w':World}{N:Nat}{E:List Value}{nm:cL}{b:Value}{j:Nat}{ts:List AG}{c:Value}{r:Option Nat}(h:R7 w N E nm b j ts c)(k:w.grownBy w' r)(a:∀q,r=some q->N+1+1+1+1<=q):R7 w' N E nm b j ts c:=
 ⟨h.b0.grown k (λe=>by have:=a _ e;omega),h.b1.grown k (λe=>by have:=a _ e;omega),h.b2.grown k (λe=>by have:=a _ e;omega),h.b3.grown k (λe=>by have:=a _ e;omega),
  bS (v:=b) h.row k (by
   cases hv:b.ownBlock with
   |none=>exact Or.inl rfl
   |some q=>exact Or.inr (λe=>by have:=h.low q hv;have:=a q e.symm;omega)),h.low⟩
theorem PQ(e:List cL)(A:CQ)(u:Option Addr)(d:Nat)(w:World)(he:e.length=26)(hA:w.ownsRow 0 93 2 (.slice u A.args.length d) A.args.length (A.args.flatMap Az))(HZ:A.args.length<=1000)(hg:∀t∈A.args,t.v=0\/(65<=t.v.toNat/\t.v.toNat<=90)):
    Calls prog 48 #[.agg (Ah e).toArray, .agg (BO A.name (.slice u A.args.length d) A.at_).toArray] w λr Y=>∃x y,r= .returned (.agg (BU ⟨AI e A, .slice x A.args.length y⟩).toArray)/\G8 Y ⟨AI e A, .slice x A.args.length y⟩/\(∀q,(Value.slice x A.args.length y).ownBlock=some q->w.heap.size<=q)/\Ac [] w Y:=by
  obtain⟨i0,K1,H4,K2,Ix⟩:=bj Tryz.info9
  obtain⟨b,a,j⟩:=A
  simp only at hA HZ hg⊢
  have HV:Hid (∀t wr,t∈a->Calls prog 89 #[.agg (Ah e).toArray, .agg (Az t).toArray] wr λr Y=>r= .returned (.string (AU e t))/\Ac [] wr Y):=λt wr ht=>Je e t wr he (hg t ht)
  have HF:Hid (∀x y wr,wr.ownsRow 0 9 1 (.slice x a.length y) a.length ((a.map (AU e)).flatMap Ae)->G8 wr ⟨AI e ⟨b,a,j⟩, .slice x a.length y⟩):=by
    intro x y wr h
    show wr.ownsRow 0 9 1 _ (a.map (AU e)).length _
    rw[aD]
    exact h
  have FC:Hid (∀x y,BU ⟨AI e ⟨b,a,j⟩, .slice x a.length y⟩=[.string b, .slice x a.length y]):=λx y=>rfl
  generalize AI e ⟨b,a,j⟩=FP at HF FC⊢
  have hc:=Bl e
  have hl:(Ah e).length=26:=by unfold Ah;simp[he]
  generalize Ah e=E at hc hl HV⊢
  have z:=Ab (((Ac.refl [] w).alloc (.cells E.toArray 90)).alloc (.cells (BO b (.slice u a.length d) j).toArray 79))
  have HB:=Ab ((Aw.new w E 90).alloc (.cells (BO b (.slice u a.length d) j).toArray 79))
  have Z:=Ab hA
  simp only[BO]at z HB⊢
  clear hA hg
  go_enter func48,ntmps48
  go_wp2_with fail
  obtain⟨N,Q⟩:∃N,w.heap.size=N:=⟨_,rfl⟩
  have FT:R7 ((((w.alloc (Obj.cells E.toArray 90)).alloc (Obj.cells #[Value.string b,Value.slice u a.length d,Value.int IntKind.i64 ↑j] 79)).alloc (Obj.cells #[Value.string {data:=#[]},Value.slice none 0 0] 43)).alloc (Obj.cells #[Value.string b,Value.slice none 0 0] 43)) N E b (.slice u a.length d) j a (.slice none 0 0):=by
    have b1:=Aw.new (w.alloc (Obj.cells E.toArray 90)) [.string b, .slice u a.length d, .int .i64 j] 79
    have b2:=Aw.new ((w.alloc (Obj.cells E.toArray 90)).alloc (Obj.cells #[Value.string b,Value.slice u a.length d,Value.int IntKind.i64 ↑j] 79)) [.string ⟨#[]⟩, .slice none 0 0] 43
    have b3:=Aw.new (((w.alloc (Obj.cells E.toArray 90)).alloc (Obj.cells #[Value.string b,Value.slice u a.length d,Value.int IntKind.i64 ↑j] 79)).alloc (Obj.cells #[Value.string {data:=#[]},Value.slice none 0 0] 43)) [.string b, .slice none 0 0] 43
    simp only[aP,Q]at b1 b2 b3
    have b0:=Aa HB
    rw[Q]at b0
    exact⟨(b0.alloc _).alloc _,(b1.alloc _).alloc _,b2.alloc _,b3,Ad (Aa Z) ((Aa z).alloc _|>.alloc _) (by simp),λq C=>by have:=((Aa Z).lt q C).2;omega⟩
  have Ax:=Ab FT
  have BT:=Ab (((Aa z).alloc (Obj.cells #[Value.string {data:=#[]},Value.slice none 0 0] 43)).alloc (Obj.cells #[Value.string b,Value.slice none 0 0] 43))
  rw[Q]
  have P:=Ab Q
  clear FT z HB Z Q
  change Code.wp _ _ _ _ ((((w.alloc (Obj.cells E.toArray 90)).alloc (Obj.cells #[Value.string b,Value.slice u a.length d,Value.int IntKind.i64 ↑j] 79)).alloc (Obj.cells #[Value.string {data:=#[]},Value.slice none 0 0] 43)).alloc (Obj.cells #[Value.string b,Value.slice none 0 0] 43))
  generalize((((w.alloc (Obj.cells E.toArray 90)).alloc (Obj.cells #[Value.string b,Value.slice u a.length d,Value.int IntKind.i64 ↑j] 79)).alloc (Obj.cells #[Value.string {data:=#[]},Value.slice none 0 0] 43)).alloc (Obj.cells #[Value.string b,Value.slice none 0 0] 43))=w1 at Ax BT⊢
  go_loopg [6] a.length (λgk i wr=>∃(k:Nat) (l:Option Addr) (f:Nat),i= .int .i64 k/\k<=a.length/\gk=a.length-k/\Hid (R7 wr N E b (.slice u a.length d) j a (.slice l k f))/\Hid (wr.ownsRow (N+1+1+1+1) 9 1 (.slice l k f) k (((a.take k).map (AU e)).flatMap Ae))/\Hid (Ac [] w wr))
  case atStart=>exact⟨0,none,0,rfl,by omega,rfl,Ax,ax _ _ _ _,BT⟩
  case round=>
    clear Ax BT
    obtain⟨k,l,f,rfl,hk,HT,o,M,z⟩:=hrel
    have HG:=Ab HT
    clear HT
    have HQ:=(Aa o).b1.cell 1
    simp at HQ
    by_cases S:k<a.length
    · obtain⟨g,D,HM,d0,d1⟩:=KR (Aa o).row k S
      simp only[Z6]at HM
      obtain⟨rfl,_,rfl⟩:=HM
      obtain⟨T,L⟩:∃T,a[k]=T:=⟨_,rfl⟩
      have H0:Hid (T∈a):=by show _∈_;rw[<-L];exact Z7 S
      have H3:Hid (a[k]=T):=L
      rw[L]at d0 d1
      have LB:(0:Int)<=(k:Int):=by omega
      have K7:(k:Int)<(a.length:Int):=by omega
      have J:Hid (∀c,R7 c N E b (.slice (some ⟨g,0,none⟩) a.length d) j a (.slice l k f)->c.rangeAt N 0 E/\c.cell? ⟨N+1+1+1,1,none⟩=some (.slice l k f)/\c.cell? ⟨N+1,1,none⟩=some (.slice (some ⟨g,0,none⟩) a.length d)/\c.cell? ⟨g,k*2,none⟩=some (.int .u8 T.v.toNat)/\c.cell? ⟨g,k*2+1,none⟩=some (.string T.s)):=by
        intro c G
        obtain⟨g',K8,FF,f0,f1⟩:=KR G.row k S
        simp only[Z6,ai,aW]at FF
        obtain⟨⟨rfl,_,_⟩,_,_⟩:=FF
        rw[L]at f0 f1
        have x3:=G.b3.cell 1
        have X:=G.b1.cell 1
        simp at X x3
        exact⟨G.b0.range,x3,X,f0,f1⟩
      clear L
      have B:=Ab (Aa J wr.drew ((Aa o).kept (Ac.refl [] wr).drew))
      go_wp2_with fail
      refine CS 12 (λc=>c.rangeAt N 0 E/\c.cell? ⟨N+1+1+1,1,none⟩=some (.slice l k f)/\c.cell? ⟨N+1,1,none⟩=some (.slice (some ⟨g,0,none⟩) a.length d)/\c.cell? ⟨g,k*2,none⟩=some (.int .u8 T.v.toNat)/\c.cell? ⟨g,k*2+1,none⟩=some (.string T.s)) (by kernel_rfl) ?_
      refine CF.take (i:=0) (v:= .pointer (some ⟨N+1+1+1,1,none⟩)) rfl (by kernel_rfl) (by kernel_rfl) (by kernel_rfl) (by kernel_rfl) (λ_ _ _ h=>h) (Aa B) (Or.inl ⟨by rfl,?_⟩) ?_
      · (intro c H;go_simp)
      simp only[Act.put,Z3,Z4,Z5]
      refine CF.take (i:=1) (v:= .slice l k f) rfl (by kernel_rfl) (by kernel_rfl) (by kernel_rfl) (by kernel_rfl) (λ_ _ _ h=>h) (Aa B) (Or.inl ⟨by rfl,?_⟩) ?_
      · (intro c H;go_simp)
      simp only[Act.put,Z3,Z4,Z5]
      refine CF.take (i:=2) (v:= .agg E.toArray) rfl (by kernel_rfl) (by kernel_rfl) (by kernel_rfl) (by kernel_rfl) (λ_ _ _ h=>h) (Aa B) (yieldsIf_load_mid (by rfl) 90 _ rfl N 0 (by rfl) E _ (λc G=>G.1) underlying90 rfl (by rw[hl];exact Tryz.size90)) ?_
      simp only[Act.put,Z3,Z4,Z5]
      refine CF.take (i:=3) (v:= .pointer (some ⟨N+1,1,none⟩)) rfl (by kernel_rfl) (by kernel_rfl) (by kernel_rfl) (by kernel_rfl) (λ_ _ _ h=>h) (Aa B) (Or.inl ⟨by rfl,?_⟩) ?_
      · (intro c H;go_simp)
      simp only[Act.put,Z3,Z4,Z5]
      refine CF.take (i:=4) (v:= .slice (some ⟨g,0,none⟩) a.length d) rfl (by kernel_rfl) (by kernel_rfl) (by kernel_rfl) (by kernel_rfl) (λ_ _ _ h=>h) (Aa B) (Or.inl ⟨by rfl,?_⟩) ?_
      · (intro c H;go_simp)
      simp only[Act.put,Z3,Z4,Z5]
      refine CF.take (i:=5) (v:= .int .i64 k) rfl (by kernel_rfl) (by kernel_rfl) (by kernel_rfl) (by kernel_rfl) (λ_ _ _ h=>h) (Aa B) (Or.inl ⟨by rfl,?_⟩) ?_
      · (intro c H;go_simp)
      simp only[Act.put,Z3,Z4,Z5]
      refine CF.take (i:=6) (v:= .pointer (some ⟨g,k*2,none⟩)) rfl (by kernel_rfl) (by kernel_rfl) (by kernel_rfl) (by kernel_rfl) (λ_ _ _ h=>h) (Aa B) (Or.inl ⟨by rfl,?_⟩) ?_
      · (intro c H;go_simp)
      simp only[Act.put,Z3,Z4,Z5]
      refine CF.take (i:=7) (v:= .agg (Az T).toArray) rfl (by kernel_rfl) (by kernel_rfl) (by kernel_rfl) (by kernel_rfl) (λ_ _ _ h=>h) (Aa B) (Or.inl ⟨by rfl,?_⟩) ?_
      · (intro c H;simp only[Az];go_simp)
      simp only[Act.put,Z3,Z4,Z5]
      refine CF.one (i:=8) (by kernel_rfl) rfl (λK m=>?_)
      go_simp
      obtain⟨V,hV⟩:∃V,AU e T=V:=⟨_,rfl⟩
      have AH:=Ab (Aa HV T wr.drew (Aa H0))
      rw[hV]at AH
      have KS:=Ab hV
      clear hV
      refine(Aa AH).mono ?_
      rintro _ I ⟨rfl,O⟩
      have R:=(Aa o).kept ((Ac.refl [] wr).drew.trans O)
      refine m.out _ _ (λ_=>Aa J I R) ?_
      clear m K AH
      try simp only[Act.put,Z3,Z4,Z5]
      refine CF.one (i:=9) (by kernel_rfl) rfl (λK m=>?_)
      go_simp
      have B9:=R.kept ((Ac.refl [] I).alloc (.cells #[.string V] 9))
      refine m.out _ _ (λ_=>Aa J _ B9) ?_
      clear m K
      try simp only[Act.put,Z3,Z4,Z5]
      have W:=Ad (Aa M) ((Ac.refl [] wr).drew.trans O) (by simp)
      have K4:=O.size
      have K6:N+1+1+1+1<=I.heap.size:=by have:=R.b3.lt;omega
      refine CF.one (i:=10) (by kernel_rfl) rfl (λK m=>?_)
      refine dG _ (by rfl) _ _ _ (by rfl) (N+1+1+1+1) 9 i0 _ 1 16 underlying41 K1 H4 K2 Ix rfl (by omega) (.slice l k f) k (((a.take k).map (AU e)).flatMap Ae) (by rfl) (ah W _)
                 ⟨I.heap.size,0,none⟩ 1 1 [.string V] (by rfl) (by rfl) (aF (cs:=#[.string V]) (t:=9) (fr:=(0,0)) (aS I _)) (by simp[Value.oneCell'])
                 (by omega) (by unfold maxLen;omega) (by omega) (by simp;omega) (I.heap.size+1) (by simp) ?_
      intro F D w5 BA Bx Jx JJ
      have n:=B9.grown Bx (λq C=>(W.lt q C).1)
      refine m.out _ _ (λ_=>Aa J _ n) ?_
      clear m K
      try simp only[Act.put,Z3,Z4,Z5]
      refine CF.one (i:=11) (by kernel_rfl) rfl (λK m=>?_)
      go_simp
      refine m.out _ _ (λ_=>Aa J _ n) ?_
      clear m K
      try simp only[Act.put,Z3,Z4,Z5]
      have U:=n.b3.cell 1
      have yf:=n.b3.frozen 1
      simp at U
      refine CF.one (i:=12) (by kernel_rfl) rfl (λK m=>?_)
      go_simp
      refine m.out _ _ (λh=>absurd rfl h) ?_
      clear m K
      refine CF.done (by kernel_rfl) ?_ _
      try simp only[Act.put,Z3,Z4,Z5]
      have HJ:Hid (R7 (w5.setCell ⟨N+1+1+1,1,none⟩ (.slice (some ⟨F,0,none⟩) (k+1) D)) N E b (.slice (some ⟨g,0,none⟩) a.length d) j a (.slice (some ⟨F,0,none⟩) (k+1) D)):=
        ⟨n.b0.set_other _ (show N+1+1+1≠N by omega) _,n.b1.set_other _ (show N+1+1+1≠N+1 by omega) _,n.b2.set_other _ (show N+1+1+1≠N+1+1 by omega) _,n.b3.set 1 _,Ag n.row (λh=>by have:=n.low _ h;simp at this;omega) _,n.low⟩
      have HH:Hid ((w5.setCell ⟨N+1+1+1,1,none⟩ (.slice (some ⟨F,0,none⟩) (k+1) D)).ownsRow (N+1+1+1+1) 9 1 (.slice (some ⟨F,0,none⟩) (k+1) D) (k+1) (((a.take (k+1)).map (AU e)).flatMap Ae)):=by
        have h:=Ag BA (p:=⟨N+1+1+1,1,none⟩) (λh=>by have:=(BA.lt _ h).1;simp at this;omega) (.slice (some ⟨F,0,none⟩) (k+1) D)
        rw[ac S,bm,aN,Aa H3]
        simp only[aI,ec,aB,bq,aX,Aa KS,Ae]
        exact h
      have HR:=Ab ((((Aa z).drew.trans O).alloc (.cells #[.string V] 9)).grown Bx (λq C=>Or.inr (by have:=(W.lt q C).1;have:=Aa P;omega))|>.setCell (p:=⟨N+1+1+1,1,none⟩) (Or.inr (by have:=Aa P;simp;omega)) (.slice (some ⟨F,0,none⟩) (k+1) D))
      clear BA Bx Jx JJ n B9 R W O B J o M z U yf d0 d1 HQ
      generalize w5.setCell ⟨N+1+1+1,1,none⟩ (.slice (some ⟨F,0,none⟩) (k+1) D)=w6 at HJ HH HR⊢
      go_wp2
      go_roundg (a.length-(k+1))
      case measure=>have:=Aa HG;omega
      case rel=>exact⟨k+1,some ⟨F,0,none⟩,D,by go_num,by omega,rfl,HJ,HH,HR⟩
    · have H6:k=a.length:=by omega
      have x0:=(Aa o).b3.cell 0
      have X:=(Aa o).b3.cell 1
      have y0:=(Aa o).b2.cell 0
      have U:=(Aa o).b2.cell 1
      have yf:=(Aa o).b2.frozen
      simp at x0 X y0 U
      have H8:Hid (Aw ((wr.setCell ⟨N+1+1,0,none⟩ (.string b)).setCell ⟨N+1+1,1,none⟩ (.slice l k f)) (N+1+1) [.string b, .slice l k f] 43):=((Aa o).b2.set 0 _).set 1 _
      have HX:Hid (((wr.setCell ⟨N+1+1,0,none⟩ (.string b)).setCell ⟨N+1+1,1,none⟩ (.slice l k f)).ownsRow 0 9 1 (.slice l k f) k ((a.map (AU e)).flatMap Ae)):=by
        have h:=Aa M
        rw[Z9 (by omega)]at h
        have hb:∀q,(Value.slice l k f).ownBlock=some q->q≠N+1+1:=λq C=>by have:=(h.lt q C).1;omega
        exact Ai (Ag (Ag h (λh=>hb _ h rfl) _) (λh=>hb _ h rfl) _) (by omega)
      have K3:Hid (∀q,(Value.slice l k f).ownBlock=some q->w.heap.size<=q):=λq C=>by have:=((Aa M).lt q C).1;have:=Aa P;omega
      have H5:=Ab (((Aa z).setCell (p:=⟨N+1+1,0,none⟩) (Or.inr (by have:=Aa P;simp;omega)) (.string b)).setCell (p:=⟨N+1+1,1,none⟩) (Or.inr (by have:=Aa P;simp;omega)) (.slice l k f))
      clear o M z
      go_wp2
      subst H6
      refine aE (AY rfl rfl (Aa H8) underlying43 rfl (by kernel_rfl)) rfl ⟨l,f,?_,Aa HF l f _ (Aa HX),Aa K3,Aa H5⟩
      rw[Aa FC]
theorem VI(e:List cL)(A:CQ)(d:Option Addr)(f:Nat)(w:World)(g:e.length=26)(h:w.ownsRow 0 93 2 (.slice d A.args.length f) A.args.length (A.args.flatMap Az))(j:A.args.length<=1000)(i:∀t∈A.args,t.v=0\/(65<=t.v.toNat/\t.v.toNat<=90)):
  Calls prog 48 #[.agg (Ah e).toArray, .agg (BO A.name (.slice d A.args.length f) A.at_).toArray] w λr c=>∃b a,r= .returned (.agg (BU ⟨AI e A, .slice b A.args.length a⟩).toArray)/\G8 c ⟨AI e A, .slice b A.args.length a⟩/\Ac [] w c:=
 (PQ e A d f w g h j i).mono λr c ⟨b,a,h1,h2,_,h4⟩=>⟨b,a,h1,h2,h4⟩
