import Derived.Test.YtoihbhenbmffcaaGreatDoorYBC
set_option linter.all false
set_option maxHeartbeats 0
open Bool renaming false->K
namespace Go.Proofs.YtoihbhenbmffcaaGreatDoor
open Go.RowKit Go.Proofs.Tryz
def ZY(p:UInt8->Bool)(s:g0)(i:Nat):∀k (a:k<s.size),i<=k->k<AF p s i->p s[k]=true:=by
 fun_induction AF p s i with
 |case1 i h hp ih=>
  intro k a c b;by_cases e:k=i
  .subst e;exact hp
  .exact ih k a (by omega) b
 |case2 i h hp=>intro k a c b;omega
 |case3 i h=>intro k a c b;omega
def Tz{s:g0}{i j:Nat}{c:UInt8}(h:c∈(s.extract i j).toList):∃k,∃b:k<s.size,i<=k/\k<j/\c=s[k]:=by
 rw[fc,ByteArray.data_extract]at h;have a:=Array.mem_toList_iff.1 h;obtain⟨k,b,e⟩:=Array.mem_extract_iff_getElem.1 a;have d:s.data.size=s.size:=rfl;exact⟨i+k,by omega,by omega,by omega,e.symm⟩
def WK{p:UInt8->Bool}{s:g0}{i:Nat}:∀c∈(s.extract i (AF p s i)).toList,p c=true:=by
 intro c b;obtain⟨k,d,e,a,rfl⟩:=Tz b;exact ZY p s i k d e a
def WT{p:UInt8->Bool}{s:g0}{i:Nat}(h:i<=s.size):(s.extract i (AF p s i)).toList.length=AF p s i-i:=by
 rw[<-A7,gh];have:=Cz p s i h;omega
def OW{s:g0}{at_:Nat}(h:(AX s at_ K).2.2=K):Qu (AX s at_ K).1:=by
 unfold AX at h⊢;rw[eE (by simp)]at h⊢;by_cases a:AF Az s (Ae s at_)=Ae s at_\/4<AF Az s (Ae s at_)-Ae s at_
 .rw[eI a]at h;cases h
 .rw[eE a];have b:AF Az s (Ae s at_)≠Ae s at_:=λe=>a (Or.inl e)
  obtain⟨c,f⟩:=JU b;have d:=B8 Az s (Ae s at_);have g:=WT (p:=Az) (Nat.le_of_lt c);show Qu (s.extract (Ae s at_) (AF Az s (Ae s at_)));exact⟨by omega,by omega,WK⟩
def Pw{s:g0}{at_:Nat}(h:(AK s at_ K).2.2=K)(a:(AK s at_ K).1.v=0):Gn (AK s at_ K).1.s:=by
 unfold AK at h a⊢;rw[eE (by simp)]at h a⊢;by_cases b:Ae s at_<s.size
 .rw[dif_pos b]at h a⊢;cases hu:C6 s[Ae s at_] with
  |true=>
   rw[hu,eI rfl]at a;simp only at a;rw[a]at hu;cases hu
  |false=>
   rw[hu,eE (by simp)]at h;rw[eE (by simp)];cases hd:An s[Ae s at_] with
   |false=>
    rw[hd,fS,eI rfl]at h;rw[fS,eI rfl];exact Or.inl (OW h)
   |true=>
    rw[hd,ig,eE (by simp)]at h;rw[ig,eE (by simp)];by_cases c:3<AF An s (Ae s at_)-Ae s at_\/(s[Ae s at_]=48/\1<AF An s (Ae s at_)-Ae s at_)
    .rw[eI c]at h;cases h
    .rw[eE c];have g:=B8 An s (Ae s at_+1);rw[<-B6 An s _ b hd]at g;have d:=WT (p:=An) (Nat.le_of_lt b);have j:=Cz An s (Ae s at_) (by omega);refine Or.inr ⟨?_,?_,WK,λr f=>?_⟩
     .show 1<=(s.extract (Ae s at_) (AF An s (Ae s at_))).toList.length;omega
     .show(s.extract (Ae s at_) (AF An s (Ae s at_))).toList.length<=3;(have:=λx=>c (Or.inl x));omega
     .obtain⟨k,e,_⟩:=IA b j (by omega:Ae s at_<AF An s (Ae s at_));simp only at f;rw[f]at e d;have i:=(List.cons.inj e).1;(have:¬1<AF An s (Ae s at_)-Ae s at_:=λx=>c (Or.inr ⟨i.symm,x⟩));rw[eF]at d;exact gB.1 (by omega)
 .rw[dif_neg b]at h;cases h
def UY{s:g0}{at_:Nat}(h:(Cr s at_).2.2=K):∀t∈(Cr s at_).1,t.v=0->Gn t.s:=by
 fun_induction Cr s at_ with
 |case1 at_ hc _ _ ih=>
  intro t a b;have c:(AK s at_ K).2.2=K:=by
   have:=hc.1;rw[eW]at this;simpa using this.1
  rcases ey.1 a with rfl|a
  .exact Pw c b
  .exact ih h t a b
 |case2 at_ hc=>
  intro t a b;rw[ex]at a;subst a;exact Pw h b
structure Y1(A:Dj):Prop where
 name:Qu A.name
 args:∀t∈A.args,t.v=0->Gn t.s
def V4{s:g0}{at_:Nat}(h:(AR s at_ K).2.2=K):Y1 (AR s at_ K).1:=by
 unfold AR at h⊢;simp only at h⊢;have a:=Hu h;have b:(Bl s (AX s (AN s at_ K) K).2.1 (AX s (AN s at_ K) K).2.2 40).2=K:=by
  cases hm:(Bl s (AX s (AN s at_ K) K).2.1 (AX s (AN s at_ K) K).2.2 40).2 with
  |false=>rfl
  |true=>unfold DW at a;rw[hm,eI rfl]at a;cases a
 refine⟨OW (Hu b),?_⟩;unfold DW at a⊢;rw[b,eE (by simp)]at a⊢;exact UY a
def LG{s:g0}{at_:Nat}(h:(Ao s at_).2.2=K):Y1 (Ao s at_).1.head:=by
 unfold Ao at h⊢;simp only at h⊢;exact V4 (IY (Hu h)).1
def P4{s:g0}{at_:Nat}(h:(As s at_).2.2=K):∀c∈(As s at_).1,Y1 c.head:=by
 fun_induction As s at_ with
 |case1 at_ ha hc ih=>
  intro c a;rcases ey.1 a with rfl|a
  .exact LG hc.1
  .exact ih h c a
 |case2 at_ ha hc=>
  intro c a;rw[ex]at a;subst a;exact LG h
 |case3 at_ ha=>intro c a;cases a
def Tx{s:g0}{at_:Nat}{cs:List A8}(h:(As s at_).2.2=K)(d:cs.map A8.erase=(As s at_).1){f:Af}(b:Fd cs f):Ln f:=by
 have g:∀c∈cs,Y1 c.head:=by
  intro c a;have k:c.erase∈(As s at_).1:=by rw[<-d];exact eZ a
  exact P4 h _ k
 obtain⟨c,a,l,i⟩:=b.zg;refine⟨by rw[l];exact(g c a).name,λx r=>?_,λe=>?_⟩
 .obtain⟨o,n,j⟩:=fA.1 (b.args x r);obtain⟨t,p,rfl⟩:=eH.1 j;obtain⟨m,q⟩:=e9.1 p;exact(g o n).args t m (gF.1 q)
 .rw[e]at i;exact Un h d c a (gB.1 i.symm)
