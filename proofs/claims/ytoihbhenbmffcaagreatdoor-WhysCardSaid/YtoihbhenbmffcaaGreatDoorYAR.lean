import Derived.Laws.RangeAny
import Derived.Test.YtoihbhenbmffcaaGreatDoorYAD
import Derived.Test.YtoihbhenbmffcaaGreatDoorYAK
set_option linter.all false
set_option maxHeartbeats 0
open Bool renaming false->K,true->jj
open Or renaming inl->j5,inr->j6
namespace Go.Proofs.YtoihbhenbmffcaaGreatDoor
open Go.RowKit Go.Proofs.Tryz
def DJ(s:g0)(j:Nat):AZ×Nat:=
 if Az (Cw s j)then(⟨2,j,s.extract j (AF Az s j)⟩,AF Az s j)
 else if An (Cw s j)then(⟨3,j,s.extract j (AF An s j)⟩,AF An s j)
 else if Cw s j=58/\DS s (j+1) 45=jj then(⟨5,j,⟨#[58,45]⟩⟩,j+2)
 else(Co j (Utf8.decode s j).1,j+(Utf8.decode s j).2)
def Ej{s:g0}{j:Nat}(h:j<s.size):Cw s j=s[j]:=by simp[Cw,h]
def Py(s:g0)(j:Nat)(h:j<s.size):j<(DJ s j).2:=by
 unfold DJ;split
 .rename_i a;rw[Ej h]at a;simp only;rw[B6 _ _ _ h a];have:=B8 Az s (j+1);omega
 .split
  .rename_i a;rw[Ej h]at a;simp only;rw[B6 _ _ _ h a];have:=B8 An s (j+1);omega
  .split
   .simp only;omega
   .have:=If s j h;simp only;omega
def P5(s:g0)(a:Nat):List AZ:=
 if h:Ae s a<s.size then
  have _h1:a<s.size:=Nat.lt_of_le_of_lt (BR s a) h;have _h2:a<(DJ s (Ae s a)).2:=Nat.lt_of_le_of_lt (BR s a) (Py s (Ae s a) h)
  (DJ s (Ae s a)).1::P5 s (DJ s (Ae s a)).2
 else[]
def Iu{s:g0}{a:Nat}(h:¬Ae s a<s.size):P5 s a=[]:=by unfold P5;simp[h]
def FR{s:g0}{a j:Nat}(b:Ae s a=j)(h:j<s.size):P5 s a=(DJ s j).1::P5 s (DJ s j).2:=by
 subst b
 conv=>lhs;unfold P5
 simp[h]
def Vl{s:g0}{a:Nat}(h:Ae s a=Ae s (a+1)):P5 s a=P5 s (a+1):=by
 by_cases b:Ae s (a+1)<s.size
 .rw[FR h b,FR rfl b]
 .rw[Iu b,Iu (by rw[h];exact b)]
def TA{s:g0}{a:Nat}(h:a<s.size)(b:Dc s[a]=jj):Ae s a=Ae s (a+1):=by
 conv=>lhs;unfold Ae
 simp[h,b]
def SY{s:g0}{a:Nat}(h:a<s.size)(b:Dc s[a]=K):Ae s a=a:=by
 unfold Ae;simp[h,b]
def XI{s:g0}{a:Nat}(h:¬a<s.size):Ae s a=a:=by
 unfold Ae;simp[h]
def Iv(s:g0)(ms:List AZ)(pos:Nat):Prop:=∀m,ms.getLast?=some m->
 (∀p r,Cy m p r=K)\/m.place+m.text.size<pos\/(m.place+m.text.size=pos/\(pos<s.size->Cy m pos (Utf8.decode s pos).1=K))
def VD{m:AZ}{p:Nat}{r:Int}(h:m.place+m.text.size<p):Cy m p r=K:=by
 unfold Cy;rw[eI (by omega)]
def Iv.now{s:g0}{b:List AZ}{pos:Nat}(h:Iv s b pos)(c:pos<s.size)(e:¬(((Utf8.decode s pos).1:Int)=32\/((Utf8.decode s pos).1:Int)=10)):
  KU b pos (Utf8.decode s pos).1=b++[Co pos (Utf8.decode s pos).1]:=by
 unfold KU;rw[eE e];split
 .rename_i m d;have:Cy m pos (Utf8.decode s pos).1=K:=by
   rcases h m d with a|a|a
   .exact a _ _
   .exact VD a
   .exact a.2 c
  simp[this]
 .rfl
def Iv.far{s:g0}{b:List AZ}{pos:Nat}(h:Iv s b pos):Iv s b (pos+1):=by
 intro m c;rcases h m c with a|a|a
 .exact j5 a
 .exact j6 (j5 (by omega))
 .exact j6 (j5 (by omega))
def Hk{s:g0}{b:List AZ}{m:AZ}{pos:Nat}(h:(∀p r,Cy m p r=K)\/m.place+m.text.size<pos\/(m.place+m.text.size=pos/\(pos<s.size->Cy m pos (Utf8.decode s pos).1=K))):Iv s (b++[m]) pos:=by
 intro c a;simp at a;subst a;exact h
def CF(c:UInt8):Az c=jj↔97<=c.toNat/\c.toNat<=122:=by
 simp[Az,it]
def EJ(c:UInt8):C6 c=jj↔65<=c.toNat/\c.toNat<=90:=by
 simp[C6,it]
def Ci(c:UInt8):An c=jj↔48<=c.toNat/\c.toNat<=57:=by
 simp[An,it]
def O2(c:UInt8):Dc c=jj↔c.toNat=32\/c.toNat=10:=by
 simp[Dc,<-gn]
def FK(c:UInt8)(h:c.toNat<128):Utf8.encode (c.toNat:Int)=⟨#[c]⟩:=by
 unfold Utf8.encode;have a:Utf8.valid (c.toNat:Int)=jj:=by simp[Utf8.valid];omega
 simp[a,h]
def IF{s:g0}{j k:Nat}(f:j<=k)(d:k<s.size):s.extract j k++⟨#[s[k]]⟩=s.extract j (k+1):=by
 apply ByteArray.ext;simp only[jt,ByteArray.data_extract];apply Array.ext
 .simp only[Array.size_append,Array.size_extract];have:s.data.size=s.size:=rfl;simp;omega
 .intro i b a;have e:s.data.size=s.size:=rfl;simp only[Array.size_append,Array.size_extract,fU,eF,fb]at b a;by_cases g:i<k-j
  .rw[Array.getElem_append_left (by simp;omega)];simp
  ·(have c:i=k-j:=by omega);subst c;rw[Array.getElem_append_right (by simp;omega)];simp[show j+(k-j)=k by omega];rfl
def size_extract{s:g0}{j k:Nat}(a:k<=s.size):(s.extract j k).size=k-j:=by
 simp[gh];omega
def Su(s:g0)(a:Int)(p:UInt8->Bool)(g:a=2\/a=3)(e:∀c:UInt8,p c=jj->c.toNat<128/\D4 (c.toNat:Int)=a/\¬((c.toNat:Int)=32\/(c.toNat:Int)=10))(d:List AZ)(j:Nat):
  ∀(n k:Nat),s.size-k<=n->j<k->k<=s.size->Et s k (d++[⟨a,j,s.extract j k⟩])=Et s (AF p s k) (d++[⟨a,j,s.extract j (AF p s k)⟩])
 |n,k,hn,hjk,hk=>by
  by_cases b:k<s.size
  .cases hpk:p s[k] with
   |false=>rw[ED p s k b hpk]
   |true=>
    obtain⟨f,h,i⟩:=e _ hpk;rw[B6 p s k b hpk,E7 _ b,ij s k b f];simp only;rw[Nb i];have l:Cy ⟨a,j,s.extract j k⟩ k (s[k].toNat:Int)=jj:=by
     unfold Cy;simp only[size_extract hk];rw[eE (by omega),eI g];simp[h]
    rw[eI l];simp only;rw[FK _ f,IF (by omega) b]
    match n with
    |0=>omega
    |n+1=>exact Su s a p g e d j n (k+1) (by omega) (by omega) (by omega)
  .rw[FI p s k b]
def Lm(p:UInt8->Bool)(s:g0):∀(n i:Nat),s.size-i<=n->∀h:AF p s i<s.size,p s[AF p s i]=K
 |n,i,hn,h=>by
  by_cases a:i<s.size
  .cases hp:p s[i] with
   |false=>
    have e:=ED p s i a hp;simp only[e];exact hp
   |true=>
    have e:=B6 p s i a hp
    match n with
    |0=>omega
    |n+1=>
     have:=Lm p s n (i+1) (by omega) (by rw[<-e];exact h);simp only[e];exact this
  .have e:=FI p s i a;omega
def FU(r:Int):D4 r=2↔97<=r/\r<=122:=by
 unfold D4;split
 .simp;omega
 .split
  .simp;omega
  .split
   .simp;omega
   .split
    .simp;omega
    .simp;omega
def Hh(r:Int):D4 r=3↔48<=r/\r<=57:=by
 unfold D4;split
 .simp;omega
 .split
  .simp;omega
  .split
   .simp;omega
   .split
    .simp;omega
    .simp;omega
def Pg{s:g0}{a:Int}{p:UInt8->Bool}(f:a=2\/a=3)(n:∀c:UInt8,p c=K->D4 (c.toNat:Int)≠a){j k:Nat}(d:k<=s.size)(o:j<=k)(i:∀h:k<s.size,p s[k]=K):
  Iv s ([⟨a,j,s.extract j k⟩]:List AZ) k:=by
 intro m b;simp at b;subst b;refine j6 (j6 ⟨by simp only[size_extract d];omega,λh=>?_⟩);unfold Cy;simp only[size_extract d];rw[eE (by omega),eI f];have l:=i h;simp only[ff,ne_eq];by_cases g:s[k].toNat<128
 .rw[ij s k h g];exact n _ l
 .have:=(jB s k h (by omega)).1;intro e;rcases f with rfl|rfl
  .rw[FU]at e;omega
  .rw[Hh]at e;omega
def OD{s:g0}{a:List AZ}{m:AZ}{pos:Nat}(h:Iv s [m] pos):Iv s (a++[m]) pos:=by
 refine Hk (h m (by simp))
def PU{n:Nat}(h:¬(97<=n/\n<=122))(a:¬(48<=n/\n<=57)):D4 (n:Int)=4\/D4 (n:Int)=5\/D4 (n:Int)=0:=by
 unfold D4;rw[eE (by omega),eE (by omega)];split
 .simp
 .split<;>simp
def OB{m:AZ}(h:m.kind=4\/m.kind=0\/(m.kind=5/\m.text.toList≠[58]))(p:Nat)(r:Int):Cy m p r=K:=by
 unfold Cy;split
 .rfl
 .rcases h with h|h|h
  .simp[h]
  .simp[h]
  .simp[h.1,h.2]
theorem Dw(s:g0):∀(n a:Nat) (e:List AZ),s.size-a<=n->Iv s e a->Et s a e=e++P5 s a
 |n,a,e,hn,d=>by
  by_cases b:a<s.size
  .match n with
   |0=>omega
   |n+1=>
    cases hb:Dc s[a] with
    |true=>
     have x:=(O2 _).1 hb;rw[E7 _ b,ij s a b (by omega)];simp only;(have:KU e a (s[a].toNat:Int)=e:=by unfold KU;rw[eI (by omega)]);rw[this,Dw s n (a+1) e (by omega) d.far,Vl (TA b hb)]
    |false=>
     (have x:¬(s[a].toNat=32\/s[a].toNat=10):=λh=>by rw[(O2 _).2 h]at hb;cases hb);have v:=SY b hb;have y:¬(((Utf8.decode s a).1:Int)=32\/((Utf8.decode s a).1:Int)=10):=by
      by_cases i:s[a].toNat<128
      .rw[ij s a b i];simp only;omega
      .have:=(jB s a b (by omega)).1;omega
     rw[FR v b,E7 _ b,d.now b y];have f:=Py s a b;unfold DJ at f⊢;rw[Ej b]at f⊢;cases hl:Az s[a] with
     |true=>
      have q:=(CF _).1 hl;simp only[hl,if_true]at f⊢;rw[ij s a b (by omega)];simp only;have k:Co a (s[a].toNat:Int)=⟨2,a,s.extract a (a+1)⟩:=by
       unfold Co;rw[(FU _).2 (by omega),FK _ (by omega),<-IF (eM _) b];simp
      rw[k,Su s 2 Az (j5 rfl) (λc d=>by have:=(CF _).1 d;exact⟨by omega,(FU _).2 (by omega),by omega⟩) e a _ (a+1) (eM _) (by omega) (by omega),<-B6 Az s a b hl];have o:=Cz Az s a (by omega);rw[Dw s n _ _ (by omega) (OD (Pg (j5 rfl) (λc d g=>by rw[FU]at g;rw[(CF c).2 (by omega)]at d;cases d) o (by omega) (Lm Az s _ a (eM _))))];simp
     |false=>
      (have q:¬(97<=s[a].toNat/\s[a].toNat<=122):=λh=>by rw[(CF _).2 h]at hl;cases hl);cases hd:An s[a] with
      |true=>
       have r:=(Ci _).1 hd;simp only[hl,hd,if_true,ev,if_false]at f⊢;rw[ij s a b (by omega)];simp only;have k:Co a (s[a].toNat:Int)=⟨3,a,s.extract a (a+1)⟩:=by
        unfold Co;rw[(Hh _).2 (by omega),FK _ (by omega),<-IF (eM _) b];simp
       rw[k,Su s 3 An (j6 rfl) (λc d=>by have:=(Ci _).1 d;exact⟨by omega,(Hh _).2 (by omega),by omega⟩) e a _ (a+1) (eM _) (by omega) (by omega),<-B6 An s a b hd];have o:=Cz An s a (by omega);rw[Dw s n _ _ (by omega) (OD (Pg (j6 rfl) (λc d g=>by rw[Hh]at g;rw[(Ci c).2 (by omega)]at d;cases d) o (by omega) (Lm An s _ a (eM _))))];simp
      |false=>
       (have r:¬(48<=s[a].toNat/\s[a].toNat<=57):=λh=>by rw[(Ci _).2 h]at hd;cases hd);simp only[hl,hd,ev,if_false]at f⊢;by_cases j:s[a]=58
       ·(have z:s[a].toNat=58:=by rw[j];rfl);rw[ij s a b (by omega)]at f⊢;simp only at f⊢;have k:Co a (s[a].toNat:Int)=⟨5,a,⟨#[58]⟩⟩:=by
         unfold Co;rw[FK _ (by omega),j];rfl
        rw[k];cases hat:DS s (a+1) 45 with
        |true=>
         have m:=Fa hat;have p:s[a+1]=45:=by
          unfold DS at hat;simpa[m] using hat
         (have u:s[a+1].toNat=45:=by rw[p];rfl);rw[eI ⟨j,rfl⟩];simp only;rw[E7 _ m,ij s (a+1) m (by omega)];simp only;rw[Nb (by omega)];have t:Cy ⟨5,a,⟨#[58]⟩⟩ (a+1) (s[a+1].toNat:Int)=jj:=by
          rw[u];unfold Cy;rw[eE (by simp;rfl)];simp
         rw[eI t];simp only;rw[FK _ (by omega),p];have w:(⟨#[58]⟩:g0)++⟨#[45]⟩=⟨#[58,45]⟩:=rfl;rw[w,Dw s n (a+1+1) _ (by omega) (Hk (j5 (OB (j6 (j6 ⟨rfl,by simp⟩)))))];simp
        |false=>
         rw[eE (by simp)];simp only;rw[Dw s n (a+1) _ (by omega) (Hk (j6 (j6 ⟨by simp;rfl,λl=>?_⟩)))]
         .simp
         .unfold Cy;rw[eE (by simp;rfl)];simp;intro g;by_cases i:s[a+1].toNat<128
          .rw[ij s (a+1) l i]at g;simp only at g;unfold DS at hat;simp[l]at hat;apply hat;apply gn.1;rw[show(45:UInt8).toNat=45 from rfl]
           omega
          .have:=(jB s (a+1) l (by omega)).1;omega
       .rw[eE (by simp[j])]at f⊢;simp only at f⊢;refine(Dw s n _ _ (by omega) (Hk (j5 (OB ?_)))).trans (by simp);by_cases i:s[a].toNat<128
        .rw[ij s a b i];unfold Co;simp only;rcases PU q r with h|h|h
         .exact j5 h
         .refine j6 (j6 ⟨h,?_⟩);rw[FK _ i];intro g;apply j;simpa using g
         .exact j6 (j5 h)
        .have:=(jB s a b (by omega)).1;refine j6 (j5 ?_);unfold Co;simp only;unfold D4;rw[eE (by omega),eE (by omega),eE (by omega),eE (by omega)]
  .rw[NH _ b,Iu (by rw[XI b];exact b)];simp
def CU(s:g0)(a:Nat):List AZ:=(P5 s a).map Ic++[Em s]
def Lp(s:g0):EH s=CU s 0:=by
 unfold EH CU;rw[Dw s _ 0 [] (eM _) (λm a=>by simp at a)];simp
