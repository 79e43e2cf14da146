import Derived.Laws.RangeAny
import Derived.Test.YtoihbhenbmffcaaGreatDoorYAC
import Derived.Test.YtoihbhenbmffcaaGreatDoorYAJ
set_option linter.all false
set_option maxHeartbeats 0
namespace Go.Proofs.YtoihbhenbmffcaaGreatDoor
open Go.RowKit Go.Proofs.Tryz
def Dv(s:cR)(j:Nat):AW×Nat:=
 if Az (Cb s j)then(⟨2,j,s.extract j (AL Az s j)⟩,AL Az s j)
 else if Ap (Cb s j)then(⟨3,j,s.extract j (AL Ap s j)⟩,AL Ap s j)
 else if Cb s j=58/\DW s (j+1) 45=true then(⟨5,j,⟨#[58,45]⟩⟩,j+2)
 else(B1 j (Utf8.decode s j).1,j+(Utf8.decode s j).2)
theorem D5{s:cR}{j:Nat}(h:j<s.size):Cb s j=s[j]:=by simp[Cb,h]
theorem OR(s:cR)(j:Nat)(h:j<s.size):j<(Dv s j).2:=by
 unfold Dv;split
 .rename_i a;rw[D5 h]at a;simp only;rw[B4 _ _ _ h a];have:=Cu Az s (j+1);omega
 .split
  .rename_i a;rw[D5 h]at a;simp only;rw[B4 _ _ _ h a];have:=Cu Ap s (j+1);omega
  .split
   .simp only;omega
   .have:=Hn s j h;simp only;omega
def Pn(s:cR)(a:Nat):List AW:=
 if h:Af s a<s.size then
  have _h1:a<s.size:=Nat.lt_of_le_of_lt (Cv s a) h;have _h2:a<(Dv s (Af s a)).2:=Nat.lt_of_le_of_lt (Cv s a) (OR s (Af s a) h)
  (Dv s (Af s a)).1::Pn s (Dv s (Af s a)).2
 else[]
theorem Ih{s:cR}{a:Nat}(h:¬Af s a<s.size):Pn s a=[]:=by unfold Pn;simp[h]
theorem FH{s:cR}{a j:Nat}(b:Af s a=j)(h:j<s.size):Pn s a=(Dv s j).1::Pn s (Dv s j).2:=by
 subst b
 conv=>lhs;unfold Pn
 simp[h]
theorem Ur{s:cR}{a:Nat}(h:Af s a=Af s (a+1)):Pn s a=Pn s (a+1):=by
 by_cases b:Af s (a+1)<s.size
 .rw[FH h b,FH rfl b]
 .rw[Ih b,Ih (by rw[h];exact b)]
theorem SG{s:cR}{a:Nat}(h:a<s.size)(b:E4 s[a]=true):Af s a=Af s (a+1):=by
 conv=>lhs;unfold Af
 simp[h,b]
theorem R7{s:cR}{a:Nat}(h:a<s.size)(b:E4 s[a]=false):Af s a=a:=by
 unfold Af;simp[h,b]
theorem WD{s:cR}{a:Nat}(h:¬a<s.size):Af s a=a:=by
 unfold Af;simp[h]
def Ii(s:cR)(ms:List AW)(pos:Nat):Prop:=∀m,ms.getLast?=some m->
 (∀p r,Cd m p r=false)\/m.place+m.text.size<pos\/(m.place+m.text.size=pos/\(pos<s.size->Cd m pos (Utf8.decode s pos).1=false))
theorem UH{m:AW}{p:Nat}{r:Int}(h:m.place+m.text.size<p):Cd m p r=false:=by
 unfold Cd;rw[if_pos (by omega)]
theorem Ii.now{s:cR}{ms:List AW}{pos:Nat}(h:Ii s ms pos)(b:pos<s.size)(d:¬(((Utf8.decode s pos).1:Int)=32\/((Utf8.decode s pos).1:Int)=10)):
  Kk ms pos (Utf8.decode s pos).1=ms++[B1 pos (Utf8.decode s pos).1]:=by
 unfold Kk;rw[if_neg d];split
 .rename_i m c;have:Cd m pos (Utf8.decode s pos).1=false:=by
   rcases h m c with a|a|a
   .exact a _ _
   .exact UH a
   .exact a.2 b
  simp[this]
 .rfl
theorem Ii.far{s:cR}{ms:List AW}{pos:Nat}(h:Ii s ms pos):Ii s ms (pos+1):=by
 intro m b;rcases h m b with a|a|a
 .exact Or.inl a
 .exact Or.inr (Or.inl (by omega))
 .exact Or.inr (Or.inl (by omega))
theorem G5{s:cR}{ms:List AW}{m:AW}{pos:Nat}(h:(∀p r,Cd m p r=false)\/m.place+m.text.size<pos\/(m.place+m.text.size=pos/\(pos<s.size->Cd m pos (Utf8.decode s pos).1=false))):Ii s (ms++[m]) pos:=by
 intro b a;simp at a;subst a;exact h
theorem Cj(c:UInt8):Az c=true↔97<=c.toNat/\c.toNat<=122:=by
 simp[Az,eh]
theorem Ew(c:UInt8):Eh c=true↔65<=c.toNat/\c.toNat<=90:=by
 simp[Eh,eh]
theorem BZ(c:UInt8):Ap c=true↔48<=c.toNat/\c.toNat<=57:=by
 simp[Ap,eh]
theorem Oi(c:UInt8):E4 c=true↔c.toNat=32\/c.toNat=10:=by
 simp[E4,<-dx]
theorem FD(c:UInt8)(h:c.toNat<128):Utf8.encode (c.toNat:Int)=⟨#[c]⟩:=by
 unfold Utf8.encode;have a:Utf8.valid (c.toNat:Int)=true:=by simp[Utf8.valid];omega
 simp[a,h]
theorem Im{s:cR}{j k:Nat}(f:j<=k)(d:k<s.size):s.extract j k++⟨#[s[k]]⟩=s.extract j (k+1):=by
 apply ByteArray.ext;simp only[fR,ByteArray.data_extract];apply Array.ext
 .simp only[Array.size_append,Array.size_extract];have:s.data.size=s.size:=rfl;simp;omega
 .intro i b a;have e:s.data.size=s.size:=rfl;simp only[Array.size_append,Array.size_extract,dh,bU,cE]at b a;by_cases g:i<k-j
  .rw[Array.getElem_append_left (by simp;omega)];simp
  ·(have c:i=k-j:=by omega);subst c;rw[Array.getElem_append_right (by simp;omega)];simp[show j+(k-j)=k by omega];rfl
theorem size_extract{s:cR}{j k:Nat}(a:k<=s.size):(s.extract j k).size=k-j:=by
 simp[eI];omega
theorem RA(s:cR)(a:Int)(p:UInt8->Bool)(f:a=2\/a=3)(d:∀c:UInt8,p c=true->c.toNat<128/\DQ (c.toNat:Int)=a/\¬((c.toNat:Int)=32\/(c.toNat:Int)=10))(ms:List AW)(j:Nat):
  ∀(n k:Nat),s.size-k<=n->j<k->k<=s.size->Ef s k (ms++[⟨a,j,s.extract j k⟩])=Ef s (AL p s k) (ms++[⟨a,j,s.extract j (AL p s k)⟩])
 |n,k,hn,hjk,hk=>by
  by_cases b:k<s.size
  .cases hpk:p s[k] with
   |false=>rw[Fg p s k b hpk]
   |true=>
    obtain⟨e,g,h⟩:=d _ hpk;rw[B4 p s k b hpk,E1 _ b,ec s k b e];simp only;rw[Mt h];have i:Cd ⟨a,j,s.extract j k⟩ k (s[k].toNat:Int)=true:=by
     unfold Cd;simp only[size_extract hk];rw[if_neg (by omega),if_pos f];simp[g]
    rw[if_pos i];simp only;rw[FD _ e,Im (by omega) b]
    match n with
    |0=>omega
    |n+1=>exact RA s a p f d ms j n (k+1) (by omega) (by omega) (by omega)
  .rw[FB p s k b]
theorem KH(p:UInt8->Bool)(s:cR):∀(n i:Nat),s.size-i<=n->∀h:AL p s i<s.size,p s[AL p s i]=false
 |n,i,hn,h=>by
  by_cases a:i<s.size
  .cases hp:p s[i] with
   |false=>
    have e:=Fg p s i a hp;simp only[e];exact hp
   |true=>
    have e:=B4 p s i a hp
    match n with
    |0=>omega
    |n+1=>
     have:=KH p s n (i+1) (by omega) (by rw[<-e];exact h);simp only[e];exact this
  .have e:=FB p s i a;omega
theorem FJ(r:Int):DQ r=2↔97<=r/\r<=122:=by
 unfold DQ;split
 .simp;omega
 .split
  .simp;omega
  .split
   .simp;omega
   .split
    .simp;omega
    .simp;omega
theorem G2(r:Int):DQ r=3↔48<=r/\r<=57:=by
 unfold DQ;split
 .simp;omega
 .split
  .simp;omega
  .split
   .simp;omega
   .split
    .simp;omega
    .simp;omega
theorem Oz{s:cR}{a:Int}{p:UInt8->Bool}(f:a=2\/a=3)(n:∀c:UInt8,p c=false->DQ (c.toNat:Int)≠a){j k:Nat}(d:k<=s.size)(o:j<=k)(i:∀h:k<s.size,p s[k]=false):
  Ii s ([⟨a,j,s.extract j k⟩]:List AW) k:=by
 intro m b;simp at b;subst b;refine Or.inr (Or.inr ⟨by simp only[size_extract d];omega,λh=>?_⟩);unfold Cd;simp only[size_extract d];rw[if_neg (by omega),if_pos f];have l:=i h;simp only[cJ,ne_eq];by_cases g:s[k].toNat<128
 .rw[ec s k h g];exact n _ l
 .have:=(fX s k h (by omega)).1;intro e;rcases f with rfl|rfl
  .rw[FJ]at e;omega
  .rw[G2]at e;omega
theorem NP{s:cR}{ms:List AW}{m:AW}{pos:Nat}(h:Ii s [m] pos):Ii s (ms++[m]) pos:=by
 refine G5 (h m (by simp))
theorem Pf{n:Nat}(h:¬(97<=n/\n<=122))(a:¬(48<=n/\n<=57)):DQ (n:Int)=4\/DQ (n:Int)=5\/DQ (n:Int)=0:=by
 unfold DQ;rw[if_neg (by omega),if_neg (by omega)];split
 .simp
 .split<;>simp
theorem NO{m:AW}(h:m.kind=4\/m.kind=0\/(m.kind=5/\m.text.toList≠[58]))(p:Nat)(r:Int):Cd m p r=false:=by
 unfold Cd;split
 .rfl
 .rcases h with h|h|h
  .simp[h]
  .simp[h]
  .simp[h.1,h.2]
theorem Dl(s:cR):∀(n a:Nat) (e:List AW),s.size-a<=n->Ii s e a->Ef s a e=e++Pn s a
 |n,a,e,hn,d=>by
  by_cases b:a<s.size
  .match n with
   |0=>omega
   |n+1=>
    cases hb:E4 s[a] with
    |true=>
     have x:=(Oi _).1 hb;rw[E1 _ b,ec s a b (by omega)];simp only;(have:Kk e a (s[a].toNat:Int)=e:=by unfold Kk;rw[if_pos (by omega)]);rw[this,Dl s n (a+1) e (by omega) d.far,Ur (SG b hb)]
    |false=>
     (have x:¬(s[a].toNat=32\/s[a].toNat=10):=λh=>by rw[(Oi _).2 h]at hb;cases hb);have v:=R7 b hb;have y:¬(((Utf8.decode s a).1:Int)=32\/((Utf8.decode s a).1:Int)=10):=by
      by_cases i:s[a].toNat<128
      .rw[ec s a b i];simp only;omega
      .have:=(fX s a b (by omega)).1;omega
     rw[FH v b,E1 _ b,d.now b y];have f:=OR s a b;unfold Dv at f⊢;rw[D5 b]at f⊢;cases hl:Az s[a] with
     |true=>
      have q:=(Cj _).1 hl;simp only[hl,if_true]at f⊢;rw[ec s a b (by omega)];simp only;have k:B1 a (s[a].toNat:Int)=⟨2,a,s.extract a (a+1)⟩:=by
       unfold B1;rw[(FJ _).2 (by omega),FD _ (by omega),<-Im (bZ _) b];simp
      rw[k,RA s 2 Az (Or.inl rfl) (λc d=>by have:=(Cj _).1 d;exact⟨by omega,(FJ _).2 (by omega),by omega⟩) e a _ (a+1) (bZ _) (by omega) (by omega),<-B4 Az s a b hl];have o:=CG Az s a (by omega);rw[Dl s n _ _ (by omega) (NP (Oz (Or.inl rfl) (λc d g=>by rw[FJ]at g;rw[(Cj c).2 (by omega)]at d;cases d) o (by omega) (KH Az s _ a (bZ _))))];simp
     |false=>
      (have q:¬(97<=s[a].toNat/\s[a].toNat<=122):=λh=>by rw[(Cj _).2 h]at hl;cases hl);cases hd:Ap s[a] with
      |true=>
       have r:=(BZ _).1 hd;simp only[hl,hd,if_true,bN,if_false]at f⊢;rw[ec s a b (by omega)];simp only;have k:B1 a (s[a].toNat:Int)=⟨3,a,s.extract a (a+1)⟩:=by
        unfold B1;rw[(G2 _).2 (by omega),FD _ (by omega),<-Im (bZ _) b];simp
       rw[k,RA s 3 Ap (Or.inr rfl) (λc d=>by have:=(BZ _).1 d;exact⟨by omega,(G2 _).2 (by omega),by omega⟩) e a _ (a+1) (bZ _) (by omega) (by omega),<-B4 Ap s a b hd];have o:=CG Ap s a (by omega);rw[Dl s n _ _ (by omega) (NP (Oz (Or.inr rfl) (λc d g=>by rw[G2]at g;rw[(BZ c).2 (by omega)]at d;cases d) o (by omega) (KH Ap s _ a (bZ _))))];simp
      |false=>
       (have r:¬(48<=s[a].toNat/\s[a].toNat<=57):=λh=>by rw[(BZ _).2 h]at hd;cases hd);simp only[hl,hd,bN,if_false]at f⊢;by_cases j:s[a]=58
       ·(have z:s[a].toNat=58:=by rw[j];rfl);rw[ec s a b (by omega)]at f⊢;simp only at f⊢;have k:B1 a (s[a].toNat:Int)=⟨5,a,⟨#[58]⟩⟩:=by
         unfold B1;rw[FD _ (by omega),j];rfl
        rw[k];cases hat:DW s (a+1) 45 with
        |true=>
         have m:=E5 hat;have p:s[a+1]=45:=by
          unfold DW at hat;simpa[m] using hat
         (have u:s[a+1].toNat=45:=by rw[p];rfl);rw[if_pos ⟨j,rfl⟩];simp only;rw[E1 _ m,ec s (a+1) m (by omega)];simp only;rw[Mt (by omega)];have t:Cd ⟨5,a,⟨#[58]⟩⟩ (a+1) (s[a+1].toNat:Int)=true:=by
          rw[u];unfold Cd;rw[if_neg (by simp;rfl)];simp
         rw[if_pos t];simp only;rw[FD _ (by omega),p];have w:(⟨#[58]⟩:cR)++⟨#[45]⟩=⟨#[58,45]⟩:=rfl;rw[w,Dl s n (a+1+1) _ (by omega) (G5 (Or.inl (NO (Or.inr (Or.inr ⟨rfl,by simp⟩)))))];simp
        |false=>
         rw[if_neg (by simp)];simp only;rw[Dl s n (a+1) _ (by omega) (G5 (Or.inr (Or.inr ⟨by simp;rfl,λl=>?_⟩)))]
         .simp
         .unfold Cd;rw[if_neg (by simp;rfl)];simp;intro g;by_cases i:s[a+1].toNat<128
          .rw[ec s (a+1) l i]at g;simp only at g;unfold DW at hat;simp[l]at hat;apply hat;apply dx.1;rw[show(45:UInt8).toNat=45 from rfl]
           omega
          .have:=(fX s (a+1) l (by omega)).1;omega
       .rw[if_neg (by simp[j])]at f⊢;simp only at f⊢;refine(Dl s n _ _ (by omega) (G5 (Or.inl (NO ?_)))).trans (by simp);by_cases i:s[a].toNat<128
        .rw[ec s a b i];unfold B1;simp only;rcases Pf q r with h|h|h
         .exact Or.inl h
         .refine Or.inr (Or.inr ⟨h,?_⟩);rw[FD _ i];intro g;apply j;simpa using g
         .exact Or.inr (Or.inl h)
        .have:=(fX s a b (by omega)).1;refine Or.inr (Or.inl ?_);unfold B1;simp only;unfold DQ;rw[if_neg (by omega),if_neg (by omega),if_neg (by omega),if_neg (by omega)]
  .rw[MQ _ b,Ih (by rw[WD b];exact b)];simp
def CA(s:cR)(a:Nat):List AW:=(Pn s a).map Hl++[Ea s]
theorem IH(s:cR):De s=CA s 0:=by
 unfold De CA;rw[Dl s _ 0 [] (bZ _) (λm a=>by simp at a)];simp
