import Derived.Laws.RangeAny
import Derived.Test.YtoihbhenbmffcaaGreatDoorZAD
import Derived.Test.YtoihbhenbmffcaaGreatDoorZAL
set_option linter.unusedVariables false
set_option linter.unusedSimpArgs false
set_option maxHeartbeats 6400000
namespace Go.Proofs.YtoihbhenbmffcaaGreatDoor
open Go.RowKit
open Go.Proofs.Tryz
def Dk(s:cL)(j:Nat):AV×Nat:=
 if Av (B5 s j)then(⟨2,j,s.extract j (AM Av s j)⟩,AM Av s j)
 else if An (B5 s j)then(⟨3,j,s.extract j (AM An s j)⟩,AM An s j)
 else if B5 s j=58/\Cz s (j+1) 45=true then(⟨5,j,⟨#[58,45]⟩⟩,j+2)
 else(BZ j (Utf8.decode s j).1,j+(Utf8.decode s j).2)
theorem DS{s:cL}{j:Nat}(h:j<s.size):B5 s j=s[j]:=by simp[B5,h]
theorem N9(s:cL)(j:Nat)(h:j<s.size):j<(Dk s j).2:=by
 unfold Dk;split
 ·rename_i a;rw[DS h]at a;simp only;rw[B0 _ _ _ h a];have:=Cq Av s (j+1);omega
 ·split
  ·rename_i a;rw[DS h]at a;simp only;rw[B0 _ _ _ h a];have:=Cq An s (j+1);omega
  ·split
   ·simp only;omega
   ·have:=G4 s j h;simp only;omega
def OA(s:cL)(a:Nat):List AV:=
 if h:Af s a<s.size then
  have _h1:a<s.size:=Nat.lt_of_le_of_lt (Cr s a) h;have _h2:a<(Dk s (Af s a)).2:=Nat.lt_of_le_of_lt (Cr s a) (N9 s (Af s a) h)
  (Dk s (Af s a)).1::OA s (Dk s (Af s a)).2
 else[]
theorem Hi{s:cL}{a:Nat}(h:¬Af s a<s.size):OA s a=[]:=by unfold OA;simp[h]
theorem Fl{s:cL}{a j:Nat}(b:Af s a=j)(h:j<s.size):OA s a=(Dk s j).1::OA s (Dk s j).2:=by
 subst b
 conv=>lhs;unfold OA
 simp[h]
theorem Ts{s:cL}{a:Nat}(h:Af s a=Af s (a+1)):OA s a=OA s (a+1):=by
 by_cases b:Af s (a+1)<s.size
 ·rw[Fl h b,Fl rfl b]
 ·rw[Hi b,Hi (by rw[h];exact b)]
theorem RP{s:cL}{a:Nat}(h:a<s.size)(b:EJ s[a]=true):Af s a=Af s (a+1):=by
 conv=>lhs;unfold Af
 simp[h,b]
theorem Q8{s:cL}{a:Nat}(h:a<s.size)(b:EJ s[a]=false):Af s a=a:=by
 unfold Af;simp[h,b]
theorem Vy{s:cL}{a:Nat}(h:¬a<s.size):Af s a=a:=by
 unfold Af;simp[h]
def Hj(s:cL)(ms:List AV)(pos:Nat):Prop:=∀m,ms.getLast?=some m->
 (∀p r,B7 m p r=false)\/m.place+m.text.size<pos\/(m.place+m.text.size=pos/\(pos<s.size->B7 m pos (Utf8.decode s pos).1=false))
theorem TM{m:AV}{p:Nat}{r:Int}(h:m.place+m.text.size<p):B7 m p r=false:=by
 unfold B7;rw[if_pos (by omega)]
theorem Hj.now{s:cL}{b:List AV}{pos:Nat}(h:Hj s b pos)(c:pos<s.size)(e:¬(((Utf8.decode s pos).1:Int)=32\/((Utf8.decode s pos).1:Int)=10)):
  JO b pos (Utf8.decode s pos).1=b++[BZ pos (Utf8.decode s pos).1]:=by
 unfold JO;rw[if_neg e];split
 ·rename_i m d;have:B7 m pos (Utf8.decode s pos).1=false:=by
   rcases h m d with a|a|a
   ·exact a _ _
   ·exact TM a
   ·exact a.2 c
  simp[this]
 ·rfl
theorem Hj.far{s:cL}{b:List AV}{pos:Nat}(h:Hj s b pos):Hj s b (pos+1):=by
 intro m c;rcases h m c with a|a|a
 ·exact Or.inl a
 ·exact Or.inr (Or.inl (by omega))
 ·exact Or.inr (Or.inl (by omega))
theorem GO{s:cL}{b:List AV}{m:AV}{pos:Nat}(h:(∀p r,B7 m p r=false)\/m.place+m.text.size<pos\/(m.place+m.text.size=pos/\(pos<s.size->B7 m pos (Utf8.decode s pos).1=false))):Hj s (b++[m]) pos:=by
 intro c a;simp at a;subst a;exact h
theorem Ce(c:UInt8):Av c=true↔97<=c.toNat/\c.toNat<=122:=by
 simp[Av,cP]
theorem Eo(c:UInt8):D8 c=true↔65<=c.toNat/\c.toNat<=90:=by
 simp[D8,cP]
theorem BW(c:UInt8):An c=true↔48<=c.toNat/\c.toNat<=57:=by
 simp[An,cP]
theorem Nw(c:UInt8):EJ c=true↔c.toNat=32\/c.toNat=10:=by
 simp[EJ,<-bQ]
theorem Fi(c:UInt8)(h:c.toNat<128):Utf8.encode (c.toNat:Int)=⟨#[c]⟩:=by
 unfold Utf8.encode;have a:Utf8.valid (c.toNat:Int)=true:=by simp[Utf8.valid];omega
 simp[a,h]
theorem Hp{s:cL}{j k:Nat}(f:j<=k)(d:k<s.size):s.extract j k++⟨#[s[k]]⟩=s.extract j (k+1):=by
 apply ByteArray.ext;simp only[ei,ByteArray.data_extract];apply Array.ext
 ·simp only[Array.size_append,Array.size_extract];have:s.data.size=s.size:=rfl;simp;omega
 ·intro i b a;have e:s.data.size=s.size:=rfl;simp only[Array.size_append,Array.size_extract,bo,ak,aH]at b a;by_cases g:i<k-j
  ·rw[Array.getElem_append_left (by simp;omega)];simp
  ·(have c:i=k-j:=by omega);subst c;rw[Array.getElem_append_right (by simp;omega)];simp[show j+(k-j)=k by omega];rfl
theorem size_extract{s:cL}{j k:Nat}(a:k<=s.size):(s.extract j k).size=k-j:=by
 simp[cK];omega
theorem QB(s:cL)(a:Int)(p:UInt8->Bool)(g:a=2\/a=3)(e:∀c:UInt8,p c=true->c.toNat<128/\DF (c.toNat:Int)=a/\¬((c.toNat:Int)=32\/(c.toNat:Int)=10))(d:List AV)(j:Nat):
  ∀(n k:Nat),s.size-k<=n->j<k->k<=s.size->D6 s k (d++[⟨a,j,s.extract j k⟩])=D6 s (AM p s k) (d++[⟨a,j,s.extract j (AM p s k)⟩])
 |n,k,hn,hjk,hk=>by
  by_cases b:k<s.size
  ·cases hpk:p s[k] with
   |false=>rw[ET p s k b hpk]
   |true=>
    obtain⟨f,h,i⟩:=e _ hpk;rw[B0 p s k b hpk,EI _ b,cH s k b f];simp only;rw[LN i];have l:B7 ⟨a,j,s.extract j k⟩ k (s[k].toNat:Int)=true:=by
     unfold B7;simp only[size_extract hk];rw[if_neg (by omega),if_pos g];simp[h]
    rw[if_pos l];simp only;rw[Fi _ f,Hp (by omega) b]
    match n with
    |0=>omega
    |n+1=>exact QB s a p g e d j n (k+1) (by omega) (by omega) (by omega)
  ·rw[Fg p s k b]
theorem J6(p:UInt8->Bool)(s:cL):∀(n i:Nat),s.size-i<=n->∀h:AM p s i<s.size,p s[AM p s i]=false
 |n,i,hn,h=>by
  by_cases a:i<s.size
  ·cases hp:p s[i] with
   |false=>
    have e:=ET p s i a hp;simp only[e];exact hp
   |true=>
    have e:=B0 p s i a hp
    match n with
    |0=>omega
    |n+1=>
     have:=J6 p s n (i+1) (by omega) (by rw[<-e];exact h);simp only[e];exact this
  ·have e:=Fg p s i a;omega
theorem Fn(r:Int):DF r=2↔97<=r/\r<=122:=by
 unfold DF;split
 ·simp;omega
 ·split
  ·simp;omega
  ·split
   ·simp;omega
   ·split
    ·simp;omega
    ·simp;omega
theorem GM(r:Int):DF r=3↔48<=r/\r<=57:=by
 unfold DF;split
 ·simp;omega
 ·split
  ·simp;omega
  ·split
   ·simp;omega
   ·split
    ·simp;omega
    ·simp;omega
theorem NJ{s:cL}{a:Int}{p:UInt8->Bool}(f:a=2\/a=3)(n:∀c:UInt8,p c=false->DF (c.toNat:Int)≠a){j k:Nat}(d:k<=s.size)(o:j<=k)(i:∀h:k<s.size,p s[k]=false):
  Hj s ([⟨a,j,s.extract j k⟩]:List AV) k:=by
 intro m b;simp at b;subst b;refine Or.inr (Or.inr ⟨by simp only[size_extract d];omega,λh=>?_⟩);unfold B7;simp only[size_extract d];rw[if_neg (by omega),if_pos f];have l:=i h;simp only[bc,ne_eq];by_cases g:s[k].toNat<128
 ·rw[cH s k h g];exact n _ l
 ·have:=(ey s k h (by omega)).1;intro e;rcases f with rfl|rfl
  ·rw[Fn]at e;omega
  ·rw[GM]at e;omega
theorem M7{s:cL}{a:List AV}{m:AV}{pos:Nat}(h:Hj s [m] pos):Hj s (a++[m]) pos:=by
 refine GO (h m (by simp))
theorem Ot{n:Nat}(h:¬(97<=n/\n<=122))(a:¬(48<=n/\n<=57)):DF (n:Int)=4\/DF (n:Int)=5\/DF (n:Int)=0:=by
 unfold DF;rw[if_neg (by omega),if_neg (by omega)];split
 ·simp
 ·split<;>simp
theorem M4{m:AV}(h:m.kind=4\/m.kind=0\/(m.kind=5/\m.text.toList≠[58]))(p:Nat)(r:Int):B7 m p r=false:=by
 unfold B7;split
 ·rfl
 ·rcases h with h|h|h
  ·simp[h]
  ·simp[h]
  ·simp[h.1,h.2]
theorem C8(s:cL):∀(n a:Nat) (e:List AV),s.size-a<=n->Hj s e a->D6 s a e=e++OA s a
 |n,a,e,hn,d=>by
  by_cases b:a<s.size
  ·match n with
   |0=>omega
   |n+1=>
    cases hb:EJ s[a] with
    |true=>
     have x:=(Nw _).1 hb;rw[EI _ b,cH s a b (by omega)];simp only;(have:JO e a (s[a].toNat:Int)=e:=by unfold JO;rw[if_pos (by omega)]);rw[this,C8 s n (a+1) e (by omega) d.far,Ts (RP b hb)]
    |false=>
     (have x:¬(s[a].toNat=32\/s[a].toNat=10):=λh=>by rw[(Nw _).2 h]at hb;cases hb);have v:=Q8 b hb;have y:¬(((Utf8.decode s a).1:Int)=32\/((Utf8.decode s a).1:Int)=10):=by
      by_cases i:s[a].toNat<128
      ·rw[cH s a b i];simp only;omega
      ·have:=(ey s a b (by omega)).1;omega
     rw[Fl v b,EI _ b,d.now b y];have f:=N9 s a b;unfold Dk at f⊢;rw[DS b]at f⊢;cases hl:Av s[a] with
     |true=>
      have q:=(Ce _).1 hl;simp only[hl,if_true]at f⊢;rw[cH s a b (by omega)];simp only;have k:BZ a (s[a].toNat:Int)=⟨2,a,s.extract a (a+1)⟩:=by
       unfold BZ;rw[(Fn _).2 (by omega),Fi _ (by omega),<-Hp (au _) b];simp
      rw[k,QB s 2 Av (Or.inl rfl) (λc d=>by have:=(Ce _).1 d;exact⟨by omega,(Fn _).2 (by omega),by omega⟩) e a _ (a+1) (au _) (by omega) (by omega),<-B0 Av s a b hl];have o:=CA Av s a (by omega);rw[C8 s n _ _ (by omega) (M7 (NJ (Or.inl rfl) (λc d g=>by rw[Fn]at g;rw[(Ce c).2 (by omega)]at d;cases d) o (by omega) (J6 Av s _ a (au _))))];simp
     |false=>
      (have q:¬(97<=s[a].toNat/\s[a].toNat<=122):=λh=>by rw[(Ce _).2 h]at hl;cases hl);cases hd:An s[a] with
      |true=>
       have r:=(BW _).1 hd;simp only[hl,hd,if_true,Z8,if_false]at f⊢;rw[cH s a b (by omega)];simp only;have k:BZ a (s[a].toNat:Int)=⟨3,a,s.extract a (a+1)⟩:=by
        unfold BZ;rw[(GM _).2 (by omega),Fi _ (by omega),<-Hp (au _) b];simp
       rw[k,QB s 3 An (Or.inr rfl) (λc d=>by have:=(BW _).1 d;exact⟨by omega,(GM _).2 (by omega),by omega⟩) e a _ (a+1) (au _) (by omega) (by omega),<-B0 An s a b hd];have o:=CA An s a (by omega);rw[C8 s n _ _ (by omega) (M7 (NJ (Or.inr rfl) (λc d g=>by rw[GM]at g;rw[(BW c).2 (by omega)]at d;cases d) o (by omega) (J6 An s _ a (au _))))];simp
      |false=>
       (have r:¬(48<=s[a].toNat/\s[a].toNat<=57):=λh=>by rw[(BW _).2 h]at hd;cases hd);simp only[hl,hd,Z8,if_false]at f⊢;by_cases j:s[a]=58
       ·(have z:s[a].toNat=58:=by rw[j];rfl);rw[cH s a b (by omega)]at f⊢;simp only at f⊢;have k:BZ a (s[a].toNat:Int)=⟨5,a,⟨#[58]⟩⟩:=by
         unfold BZ;rw[Fi _ (by omega),j];rfl
        rw[k];cases hat:Cz s (a+1) 45 with
        |true=>
         have m:=EL hat;have p:s[a+1]=45:=by
          unfold Cz at hat;simpa[m] using hat
         (have u:s[a+1].toNat=45:=by rw[p];rfl);rw[if_pos ⟨j,rfl⟩];simp only;rw[EI _ m,cH s (a+1) m (by omega)];simp only;rw[LN (by omega)];have t:B7 ⟨5,a,⟨#[58]⟩⟩ (a+1) (s[a+1].toNat:Int)=true:=by
          rw[u];unfold B7;rw[if_neg (by simp;rfl)];simp
         rw[if_pos t];simp only;rw[Fi _ (by omega),p];have w:(⟨#[58]⟩:cL)++⟨#[45]⟩=⟨#[58,45]⟩:=rfl;rw[w,C8 s n (a+1+1) _ (by omega) (GO (Or.inl (M4 (Or.inr (Or.inr ⟨rfl,by simp⟩)))))];simp
        |false=>
         rw[if_neg (by simp)];simp only;rw[C8 s n (a+1) _ (by omega) (GO (Or.inr (Or.inr ⟨by simp;rfl,λl=>?_⟩)))]
         ·simp
         ·unfold B7;rw[if_neg (by simp;rfl)];simp;intro g;by_cases i:s[a+1].toNat<128
          ·rw[cH s (a+1) l i]at g;simp only at g;unfold Cz at hat;simp[l]at hat;apply hat;apply bQ.1;rw[show(45:UInt8).toNat=45 from rfl]
           omega
          ·have:=(ey s (a+1) l (by omega)).1;omega
       ·rw[if_neg (by simp[j])]at f⊢;simp only at f⊢;refine(C8 s n _ _ (by omega) (GO (Or.inl (M4 ?_)))).trans (by simp);by_cases i:s[a].toNat<128
        ·rw[cH s a b i];unfold BZ;simp only;rcases Ot q r with h|h|h
         ·exact Or.inl h
         ·refine Or.inr (Or.inr ⟨h,?_⟩);rw[Fi _ i];intro g;apply j;simpa using g
         ·exact Or.inr (Or.inl h)
        ·have:=(ey s a b (by omega)).1;refine Or.inr (Or.inl ?_);unfold BZ;simp only;unfold DF;rw[if_neg (by omega),if_neg (by omega),if_neg (by omega),if_neg (by omega)]
  ·rw[L8 _ b,Hi (by rw[Vy b];exact b)];simp
def Cv(s:cL)(a:Nat):List AV:=(OA s a).map G2++[DX s]
theorem J8(s:cL):Fo s=Cv s 0:=by
 unfold Fo Cv;rw[C8 s _ 0 [] (au _) (λm a=>by simp at a)];simp
