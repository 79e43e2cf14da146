import Derived.Test.YtoihbhenbmffcaaGreatDoorVAJ
import Derived.Test.YtoihbhenbmffcaaGreatDoorVAO
set_option linter.all false
set_option maxHeartbeats 0
open List renaming length->Z
open Bool renaming false->K
namespace Go.Proofs.YtoihbhenbmffcaaGreatDoor
open Go.RowKit Go.Proofs.Tryz
variable{w:World}{m k n i j:Nat}{T:TypeId}{z:Value}{y:QC Value}{c:QC A7}{f:QC Af}{s t:bC}{g:UInt8}{B:Bool}
structure ZB(cs:QC A7)(J:QC Af->Prop):Prop where
 len:∀s,J s->Z s<=6912
 body:∀c∈cs,Z c.bl<=3
 args:∀c∈cs,∀p∈c.bl,(p.1.kind==97)=true->(∀t∈p.1.A.args,Bs t)/\Z p.1.A.args<=1000
 lit:∀s,J s->∀c∈cs,∀e∈(Am c).foldl (Cj s) [Bj],∀p∈c.bl,(p.1.kind==97)=K->NG e p.1
 head:∀c∈cs,(∀t∈c.head.args,NI t)/\Z c.head.args<=1000
 fact:∀s,J s->∀c∈cs,∀e∈Bm (Am c) s,LY (Aq e c.head)
 add:∀s0 s,J s0->J s->∀c∈cs,∀e∈Bm (Am c) s0,J (Bb s (Aq e c.head))
def Rk(h:w.ownsRow m T k z n y):n<=9223372036854775807:=by
 rcases h.2 with⟨_,f⟩|⟨g,d,b,_,_,_,c,a,_⟩
 .omega
 .unfold maxLen at a;omega
def SX(cs:QC A7)(s:QC Af):Prop:=D1 s/\∀f∈s,DV cs f
def GN.zB{a:bC->Nat}(h:GN c a n f):SX c f:=⟨h.cE,h.fw⟩
def Ds.small{a:QC A7}(h:Ds a):Z a<=12/\∀c∈a,Z c.bl<=3/\Z c.head.args<=2/\∀p∈c.bl,BI p=K:=by
 have e:∀k (d:k<Z a),k<12/\a[k].bl.length<=3/\a[k].head.args.length<=2/\∀p∈a[k].bl,BI p=K:=by
  intro k d;have b:=h.each k d;unfold Cq at b;by_cases f:12<=k\/3<a[k].bl.length
  .rw[lS f]at b;cases b
  rw[lO f]at b;by_cases g:2<a[k].head.args.length
  .rw[lS g]at b;cases b
  rw[lO g]at b;cases a3:a[k].bl.any BI with
  |true=>rw[a3,lS rfl]at b;cases b
  |false=>
   refine⟨by omega,by omega,by omega,λp i=>?_⟩;rw[ng]at a3;cases hm:BI p with
   |false=>rfl
   |true=>exact absurd hm (a3 p i)
 refine⟨?_,λc l=>?_⟩
 .by_cases j:Z a<=12
  .exact j
  .have:=(e 12 (by omega)).1;omega
 .obtain⟨k,d,rfl⟩:=mw l;exact(e k d).2
def XX(a:QC A7)(h:∀c∈a,Z c.head.args<=2):Z (consts a)<=Z a*2:=by
 unfold consts
 induction a with
 |nil=>simp
 |cons c a ih=>
  have f:=ih (λd b=>h d (my _ b));have e:=h c (mV ..);have g:=nr (λt:AF=>t.v==0) c.head.args;simp only[mc,lU,lR,lQ];omega
def MO(l:QC bC):∀n,Z (I8 l n)=Z l^n
 |0=>rfl
 |n+1=>by
  have ih:=MO l n;unfold I8;have:∀m:QC bC,Z (m.flatMap λx=>(I8 l n).map (x:: ·))=Z m*Z l^n:=by
   intro m
   induction m with
   |nil=>simp
   |cons x m ih2=>
    simp only[mc,lU,lR,ih2,ih,lQ,nR,Nat.one_mul];omega
  rw[this l,Nat.pow_succ,Nat.mul_comm]
def R9{a:QC A7}(m:Z a<=12)(h:∀c∈a,Z c.head.args<=2):Z (Ts a)<=6912:=by
 have j:Z (consts a)<=24:=by have:=XX a h;omega
 have g:∀n,n<=2->Z (I8 (consts a) n)<=576:=by
  intro n k;rw[MO]
  match n,k with
  |0,_=>simp
  |1,_=>simp;omega
  |2,_=>
   have:Z (consts a)^2<=24^2:=Nat.pow_le_pow_left j 2;omega
 have f:∀b:QC A7,(∀c∈b,Z c.head.args<=2)->Z (b.flatMap λc=>(I8 (consts a) (Z c.head.args)).map (Af.mk c.head.name))<=Z b*576:=by
  intro b
  induction b with
  |nil=>simp
  |cons c b ih=>
   intro e;have o:=ih (λd i=>e d (my _ i));have l:=g _ (e c (mV ..));simp only[mc,lU,lR,lQ,nR,Nat.one_mul];omega
 have:=f a h;unfold Ts;omega
def IV{a:QC A7}(hF:Xd a):∀x∈consts a,0<x.size/\x.size<=1000000:=by
 intro x b;unfold consts at b;obtain⟨c,h,d⟩:=mD.1 b;obtain⟨t,g,rfl⟩:=lP.1 d;obtain⟨f,e⟩:=mh.1 g;exact(hF.full c h).head t f (by simpa using e)
def Dw.fit{t:AF}(h:Dw t):NI t:=by
 rcases h with h|h
 .exact Or.inl h.1
 .exact Or.inr ⟨h.1,h.2.1⟩
def Cp.fit{j:QC A7}(h:Cp j)(hF:Xd j):ZB j (SX j):=by
 obtain⟨S,r⟩:=h.order.small;have F:∀s,SX j s->∀f∈s,IL f:=λs b f m=>AJ.cI ((b.2 f m).canon h.prog.cU)
 have T:∀s,SX j s->∀c∈j,∀e∈(Am c).foldl (Cj s) [Bj],∀t,F5 (Am c) t->t.v≠0->0<(AL e t).size/\(AL e t).size<=1000000:=by
  intro s b c a e d t g i;obtain⟨_,_,_,_,E⟩:=Da (F s b) (Am c) [Bj] (λe d=>by simp at d;rw[d];rfl) (h.prog.cI.args c a) e d;rcases g with k|⟨y,hy,o,u,hu,AH⟩
  .exact absurd k i
  .have k:=(b.2 _ (E y hy o).1).args (AL e u) (lZ hu);have n:=IV hF _ k;(have G:AL e u=AL e t:=by unfold AL;rw[AH,lO i,lO i]);rw[G]at n;exact n
 have I:∀s,SX j s->∀c∈j,∀e∈(Am c).foldl (Cj s) [Bj],∀p∈c.bl,∀t∈AE p,F5 (Am c) t->0<(AL e t).size/\(AL e t).size<=1000000:=by
  intro s b c a e d p l t g E;by_cases i:t.v=0
  .have k:=(hF.full c a).body p l t g i;unfold AL;rw[lS i];exact k
  .exact T s b c a e d t E i
 refine⟨λs b=>?_,λc a=>(r c a).1,λc a p l o=>?_,λs b c a e d p l o=>?_,λc a=>⟨λt g=>((h.cU c a).args t g).fit,by have:=(r c a).2.1;omega⟩,λs b c a e d=>?_,λW s i b c a e d=>?_⟩
 .have:=Kl s (Ts j) (b.1.nodup λf m=>(b.2 f m).canon h.prog.cU) λf m=>(b.2 f m).mem
  have:=R9 S (λc a=>(r c a).2.1);omega
 .have w:=(r c a).2.2 p l;refine⟨h.prog.cI.args c a p.1 (lZ l) o,?_⟩;unfold BI at w;have n:¬2<Z p.1.A.args:=of_decide_eq_false w;omega
 .have w:=(r c a).2.2 p l;unfold BI at w;have n:¬2<Z p.1.A.args:=of_decide_eq_false w;have P:p.1∈Am c:=lZ l;have q:=h.lits c a p.1 P;have M:=h.prog.cI.safe c a p.1 P o;refine⟨λC=>?_,λB=>?_⟩
  ·(have D:(p.1.kind==33)=true:=by rw[o]at C;simpa using C);unfold Dk at q;rw[lS C]at q;(have z:AE p=p.1.A.args:=by unfold AE Nf;rw[C];rfl);refine⟨λt g=>(q.args t g).fit,by omega,⟨by simp[Aq];omega,λx H=>?_⟩⟩;obtain⟨t,g,rfl⟩:=lP.1 H;exact I s b c a e d p l t (by rw[z];exact g) (M.1 D t g)
  ·(have D:(p.1.kind==33)=K:=by rw[o]at B;simpa using B);unfold Dk at q;rw[lO (by rw[B];simp)]at q;(have z:AE p=[p.1.L,p.1.R]:=by unfold AE Nf;rw[B];rfl);have N:=I s b c a e d p l p.1.L (by rw[z];simp) (M.2 D).1;have Q:=I s b c a e d p l p.1.R (by rw[z];simp) (M.2 D).2;exact⟨q.1.fit,q.2.1.fit,N.1,N.2,Q.1,Q.2⟩
 .have k:=RK h.prog.cI b.2 (F s b) a d;refine⟨?_,λx H=>IV hF x (k.args x H)⟩;have:=(r c a).2.1;simp[Aq];omega
 .have k:=RK h.prog.cI i.2 (F W i) a d;have n:=C5 (k.canon h.prog.cU) b.1 (λf m=>(b.2 f m).canon h.prog.cU);refine⟨n.1,λf m=>?_⟩;rcases(n.2.2 f).1 m with G|rfl
  .exact b.2 f G
  .exact k
def MF(s:bC)(b:Nat)(a:Bool):(Bc s b a).1.size<=s.size:=by
 unfold Bc;split
 .exact lW _
 .split
  .exact lW _
  .rw[mP];omega
def Oj(s:bC)(t:bC)(er:Int):Prop:=
 (er≠0->t=ByteArray.empty)/\
 (er=0->∃(cs:QC A7) (fs:QC BM),cs.map A7.erase=(An s (Ae s 0)).1/\Cp cs/\(∀c∈cs,c.head.args≠[])/\GN cs (Cf cs 6) 7 (fs.map BM.f)/\t=Ox ByteArray.empty fs)
def eO(p:UInt8->Bool)(s:bC)(i:Nat):∀k (a:k<s.size),i<=k->k<AG p s i->p s[k]=true:=by
 fun_induction AG p s i with
 |case1 i h hp ih=>
  intro k a c b;by_cases e:k=i
  .subst e;exact hp
  .exact ih k a (by omega) b
 |case2 i h hp=>intro k a c b;omega
 |case3 i h=>intro k a c b;omega
def Ws(h:g∈(s.extract i j).toList):∃k,∃b:k<s.size,i<=k/\k<j/\g=s[k]:=by
 rw[ma,ByteArray.data_extract]at h;have a:=Array.mem_toList_iff.1 h;obtain⟨k,b,e⟩:=Array.mem_extract_iff_getElem.1 a;have d:s.data.size=s.size:=rfl;exact⟨i+k,by omega,by omega,by omega,e.symm⟩
def ZY{p:UInt8->Bool}:∀c∈(s.extract i (AG p s i)).toList,p c=true:=by
 intro c b;obtain⟨k,e,a,d,rfl⟩:=Ws b;exact eO p s i k e a d
def Z6{p:UInt8->Bool}(h:i<=s.size):Z (s.extract i (AG p s i)).toList=AG p s i-i:=by
 rw[<-AP,mP];have:=CN p s i h;omega
def QN(h:(Bc s n K).2.2=K):Kd (Bc s n K).1:=by
 unfold Bc at h⊢;rw[lO (by simp)]at h⊢;by_cases a:AG AA s (Ae s n)=Ae s n\/4<AG AA s (Ae s n)-Ae s n
 .rw[lS a]at h;cases h
 .rw[lO a];have b:AG AA s (Ae s n)≠Ae s n:=λe=>a (Or.inl e)
  obtain⟨c,f⟩:=Lg b;have d:=Cw AA s (Ae s n);have g:=Z6 (p:=AA) (Nat.le_of_lt c);show Kd (s.extract (Ae s n) (AG AA s (Ae s n)));exact⟨by omega,by omega,ZY⟩
def Rv(h:(AM s n K).2.2=K)(a:(AM s n K).1.v=0):Gw (AM s n K).1.s:=by
 unfold AM at h a⊢;rw[lO (by simp)]at h a⊢;by_cases b:Ae s n<s.size
 .rw[dif_pos b]at h a⊢;cases hu:Do s[Ae s n] with
  |true=>
   rw[hu,lS rfl]at a;simp only at a;rw[a]at hu;cases hu
  |false=>
   rw[hu,lO (by simp)]at h;rw[lO (by simp)];cases hd:Ap s[Ae s n] with
   |false=>
    rw[hd,m4,lS rfl]at h;rw[m4,lS rfl];exact Or.inl (QN h)
   |true=>
    rw[hd,oh,lO (by simp)]at h;rw[oh,lO (by simp)];by_cases c:3<AG Ap s (Ae s n)-Ae s n\/(s[Ae s n]=48/\1<AG Ap s (Ae s n)-Ae s n)
    .rw[lS c]at h;cases h
    .rw[lO c];have g:=Cw Ap s (Ae s n+1);rw[<-Ct Ap s _ b hd]at g;have d:=Z6 (p:=Ap) (Nat.le_of_lt b);have j:=CN Ap s (Ae s n) (by omega);refine Or.inr ⟨?_,?_,ZY,λr f=>?_⟩
     .show 1<=Z (s.extract (Ae s n) (AG Ap s (Ae s n))).toList;omega
     .show Z (s.extract (Ae s n) (AG Ap s (Ae s n))).toList<=3;(have:=λx=>c (Or.inl x));omega
     .obtain⟨k,e,_⟩:=JL b j (by omega:Ae s n<AG Ap s (Ae s n));simp only at f;rw[f]at e d;have i:=(List.cons.inj e).1;(have:¬1<AG Ap s (Ae s n)-Ae s n:=λx=>c (Or.inr ⟨i.symm,x⟩));rw[lQ]at d;exact nK.1 (by omega)
 .rw[dif_neg b]at h;cases h
def X8{s:bC}{b:Nat}(h:(Cb s b).2.2=K):∀t∈(Cb s b).1,t.v=0->Gw t.s:=by
 fun_induction Cb s b with
 |case1 b hc _ _ ih=>
  intro t a c;have d:(AM s b K).2.2=K:=by
   have:=hc.1;rw[mi]at this;simpa using this.1
  rcases lI.1 a with rfl|a
  .exact Rv d c
  .exact ih h t a c
 |case2 b hc=>
  intro t a c;rw[lG]at a;subst a;exact Rv h c
structure XK(A:C8):Prop where
 name:Kd A.name
 args:∀t∈A.args,t.v=0->Gw t.s
def Na(h:(A3 s n K).2.2=K):XK (A3 s n K).1:=by
 unfold A3 at h⊢;simp only at h⊢;have a:=Hz h;have b:(Bz s (Bc s (AQ s n K) K).2.1 (Bc s (AQ s n K) K).2.2 40).2=K:=by
  cases hm:(Bz s (Bc s (AQ s n K) K).2.1 (Bc s (AQ s n K) K).2.2 40).2 with
  |false=>rfl
  |true=>unfold Et at a;rw[hm,lS rfl]at a;cases a
 refine⟨QN (Hz b),?_⟩;unfold Et at a⊢;rw[b,lO (by simp)]at a⊢;exact X8 a
def JM(h:(Ao s n).2.2=K):XK (Ao s n).1.head:=by
 unfold Ao at h⊢;simp only at h⊢;exact Na (J5 (Hz h)).1
def L1{s:bC}{b:Nat}(h:(An s b).2.2=K):∀c∈(An s b).1,XK c.head:=by
 fun_induction An s b with
 |case1 b ha hc ih=>
  intro c a;rcases lI.1 a with rfl|a
  .exact JM hc.1
  .exact ih h c a
 |case2 b ha hc=>
  intro c a;rw[lG]at a;subst a;exact JM h
 |case3 b ha=>intro c a;cases a
def Wp{b:QC A7}(h:(An s n).2.2=K)(g:b.map A7.erase=(An s n).1){f:Af}(d:DV b f):Il f:=by
 have i:∀c∈b,XK c.head:=by
  intro c a;have l:c.erase∈(An s n).1:=by rw[<-g];exact lZ a
  exact L1 h _ l
 obtain⟨c,a,m,j⟩:=d.zB;refine⟨by rw[m];exact(i c a).name,λx v=>?_,λe=>?_⟩
 .obtain⟨q,p,k⟩:=mD.1 (d.args x v);obtain⟨t,r,rfl⟩:=lP.1 k;obtain⟨o,u⟩:=mh.1 r;exact(i q p).args t o (nu.1 u)
 .rw[e]at j;exact R5 h g c a (nK.1 j.symm)
def KG(s:QC Af)(c:A7):Bool:=(Bm (Am c) s).all λe=>CW s (Aq e c.head)
def SD(cs:QC A7)(s:QC Af):Bool:=cs.all (KG s)
def cP{a:QC A7}{L:bC->Nat}{u:QC Af}(d:Nz a L)(h:GN a L n u)(m:∀c∈a,L c.head.name<n):SD a u=true:=by
 unfold SD KG;rw[m3];intro c b;rw[m3];intro e j;have l:∀f∈u,IL f:=λf i=>((h.fw f i).canon d.cU).cI
 have k:=F3 l (d.cI.args c b) j;have g:=(Gm c (Jq e) u).1 k;exact(B3 _ _).2 (h.work.closed (C1 c (Jq e)) ⟨c,b,Jq e,g.2,rfl⟩ (m c b) g.1)
def iE(x:Bp):Prop:=(x.kind==97||x.kind==33)=true->XK x.A/\x.A.args≠[]
def Uq(h:(Dd s n).2.2=K):iE (Dd s n).1:=by
 have a:=O3 h;unfold Dd at h a⊢;simp only at h a⊢;cases h33:Ej s (Ae s n) 33 with
 |true=>
  rw[h33,lS rfl]at h;rw[lS rfl];exact λ_=>⟨Na h,RN h⟩
 |false=>
  rw[h33,lO (by simp)]at h a;rw[lO (by simp)];cases ho:(Ey s (Ae s n)&&Ka s (Ae s n))with
  |true=>
   rw[ho,lS rfl]at h;rw[lS rfl];exact λ_=>⟨Na h,RN h⟩
  |false=>
   rw[ho,lO (by simp)]at h a;rw[lO (by simp)];unfold IF at h a⊢;generalize hg:AQ s (AM s (Ae s n) K).2.1 (AM s (Ae s n) K).2.2=a3 at h a⊢;cases hc:(!(AM s (Ae s n) K).2.2&&(Ej s a3 61||Ej s a3 35||Ej s a3 60))with
   |false=>rw[hc,lO (by simp)]at h;cases h
   |true=>
    rw[hc,lS rfl]at a;rw[lS rfl];intro b;unfold Dk at a;rw[lS b]at a;exact absurd a.name.size (by simp[Gp])
def YA{s:bC}{b:Nat}(h:(A4 s b).2.2=K):∀x∈(A4 s b).1,iE x:=by
 fun_induction A4 s b with
 |case1 b hc _ _ ih=>
  intro t a;have c:(Dd s b).2.2=K:=by
   have:=hc.1;rw[mi]at this;simpa using this.1
  rcases lI.1 a with rfl|a
  .exact Uq c
  .exact ih h t a
 |case2 b hc=>
  intro t a;rw[lG]at a;subst a;exact Uq h
def Za(h:(DL s n B).2.2=K):∀x∈(DL s n B).1,iE x:=by
 unfold DL at h⊢;cases hc:(!B&&Ej s (AQ s n B) 58)with
 |true=>
  rw[hc,lS rfl]at h;rw[lS rfl];cases h45:Ej s (B7 s n B 58) 45 with
  |true=>
   rw[h45,lS rfl]at h;rw[lS rfl];exact YA h
  |false=>rw[h45,lO (by simp)]at h;cases h
 |false=>
  rw[hc,lO (by simp)]at h;rw[lO (by simp)];exact λx b=>by cases b
def Nw(h:(Ao s n).2.2=K):∀x∈(Ao s n).1.body,iE x:=by
 unfold Ao at h⊢;simp only at h⊢;exact Za (Hz h)
def Sn{s:bC}{b:Nat}(h:(An s b).2.2=K):∀c∈(An s b).1,∀x∈c.body,iE x:=by
 fun_induction An s b with
 |case1 b ha hc ih=>
  intro c a;rcases lI.1 a with rfl|a
  .exact Nw hc.1
  .exact ih h c a
 |case2 b ha hc=>
  intro c a;rw[lG]at a;subst a;exact Nw h
 |case3 b ha=>intro c a;cases a
def XE{a:QC A7}(h:(An s n).2.2=K)(z:a.map A7.erase=(An s n).1)(x:Cp a)(j:t∈C2 a):
  Kd t/\(BU a t=1\/BU a t=2):=by
 rw[Nb,(EF _).2]at j;obtain⟨c,l,f⟩:=mD.1 j;have g:c.erase∈(An s n).1:=by rw[<-z];exact lZ l
 obtain⟨k,v,rfl⟩:=mw l;obtain⟨_,B,o,_,_,p,u,_⟩:=Ee (x.order.each k v);rcases lI.1 f with rfl|f
 .have e:=Pw h _ g;have y:0<a[k].head.args.length:=List.length_pos_iff.2 e;exact⟨(L1 h _ g).name,by rw[p];omega⟩
 .obtain⟨q,w,rfl⟩:=lP.1 f;obtain⟨d,m⟩:=mh.1 w;obtain⟨r,e⟩:=Sn h _ g q.1 (lZ d) m;have y:0<Z q.1.A.args:=List.length_pos_iff.2 e;have b:=nB.1 u q d;unfold BN at b;rw[m]at b;have i:=ng.1 o q d;unfold BI at i;refine⟨r.name,?_⟩;simp at b i;rw[b];omega
def Yq{a:QC A7}(b:Cp a){f:Af}(e:DV a f):BU a f.name=(Z f.args:Int):=by
 obtain⟨c,i,g,j⟩:=e.zB;obtain⟨k,d,rfl⟩:=mw i;obtain⟨_,_,_,_,_,h,_⟩:=Ee (b.order.each k d);rw[g,j];exact h
