import Derived.Laws.RangeAny
import Derived.Test.YtoihbhenbmffcaaGreatDoorYAC
import Derived.Test.YtoihbhenbmffcaaGreatDoorYAJ
set_option linter.all false
set_option maxHeartbeats 0
open Bool renaming false->K,true->j1
open Or renaming inl->lx,inr->ly
namespace Go.Proofs.YtoihbhenbmffcaaGreatDoor
open Go.RowKit Go.Proofs.Tryz
def DQ(s:zA)(j:Nat):AZ×Nat:=
 if Az (Cl s j)then(⟨2,j,s.extract j (AC Az s j)⟩,AC Az s j)
 else if Ao (Cl s j)then(⟨3,j,s.extract j (AC Ao s j)⟩,AC Ao s j)
 else if Cl s j=58/\D1 s (j+1) 45=j1 then(⟨5,j,⟨#[58,45]⟩⟩,j+2)
 else(Cf j (Utf8.decode s j).1,j+(Utf8.decode s j).2)
def Ey{s:zA}{j:Nat}(h:j<s.size):Cl s j=s[j]:=by simp[Cl,h]
def Qc(s:zA)(j:Nat)(h:j<s.size):j<(DQ s j).2:=by
 unfold DQ;split
 .rename_i a;rw[Ey h]at a;simp only;rw[B5 _ _ _ h a];have:=B7 Az s (j+1);omega
 .split
  .rename_i a;rw[Ey h]at a;simp only;rw[B5 _ _ _ h a];have:=B7 Ao s (j+1);omega
  .split
   .simp only;omega
   .have:=Ip s j h;simp only;omega
def QM(s:zA)(a:Nat):mc AZ:=
 if h:Ae s a<s.size then
  have _h1:a<s.size:=Nat.lt_of_le_of_lt (BU s a) h;have _h2:a<(DQ s (Ae s a)).2:=Nat.lt_of_le_of_lt (BU s a) (Qc s (Ae s a) h)
  (DQ s (Ae s a)).1::QM s (DQ s (Ae s a)).2
 else[]
def IM{s:zA}{a:Nat}(h:¬Ae s a<s.size):QM s a=[]:=by unfold QM;simp[h]
def F5{s:zA}{a j:Nat}(b:Ae s a=j)(h:j<s.size):QM s a=(DQ s j).1::QM s (DQ s j).2:=by
 subst b
 conv=>lhs;unfold QM
 simp[h]
def Wt{s:zA}{a:Nat}(h:Ae s a=Ae s (a+1)):QM s a=QM s (a+1):=by
 by_cases b:Ae s (a+1)<s.size
 .rw[F5 h b,F5 rfl b]
 .rw[IM b,IM (by rw[h];exact b)]
def UH{s:zA}{a:Nat}(h:a<s.size)(b:C8 s[a]=j1):Ae s a=Ae s (a+1):=by
 conv=>lhs;unfold Ae
 simp[h,b]
def T4{s:zA}{a:Nat}(h:a<s.size)(b:C8 s[a]=K):Ae s a=a:=by
 unfold Ae;simp[h,b]
def YU{s:zA}{a:Nat}(h:¬a<s.size):Ae s a=a:=by
 unfold Ae;simp[h]
def IN(s:zA)(ms:mc AZ)(pos:Nat):Prop:=∀m,ms.getLast?=some m->
 (∀p r,Co m p r=K)\/m.place+m.text.size<pos\/(m.place+m.text.size=pos/\(pos<s.size->Co m pos (Utf8.decode s pos).1=K))
def WH{m:AZ}{p:Nat}{r:Int}(h:m.place+m.text.size<p):Co m p r=K:=by
 unfold Co;rw[gY (by omega)]
def IN.now{s:zA}{ms:mc AZ}{pos:Nat}(h:IN s ms pos)(b:pos<s.size)(d:¬(((Utf8.decode s pos).1:Int)=32\/((Utf8.decode s pos).1:Int)=10)):
  Lm ms pos (Utf8.decode s pos).1=ms++[Cf pos (Utf8.decode s pos).1]:=by
 unfold Lm;rw[gV d];split
 .rename_i m c;have:Co m pos (Utf8.decode s pos).1=K:=by
   rcases h m c with a|a|a
   .exact a _ _
   .exact WH a
   .exact a.2 b
  simp[this]
 .rfl
def IN.far{s:zA}{ms:mc AZ}{pos:Nat}(h:IN s ms pos):IN s ms (pos+1):=by
 intro m b;rcases h m b with a|a|a
 .exact lx a
 .exact ly (lx (by omega))
 .exact ly (lx (by omega))
def Hu{s:zA}{ms:mc AZ}{m:AZ}{pos:Nat}(h:(∀p r,Co m p r=K)\/m.place+m.text.size<pos\/(m.place+m.text.size=pos/\(pos<s.size->Co m pos (Utf8.decode s pos).1=K))):IN s (ms++[m]) pos:=by
 intro b a;simp at a;subst a;exact h
def Cs(c:UInt8):Az c=j1↔97<=c.toNat/\c.toNat<=122:=by
 simp[Az,kg]
def E1(c:UInt8):C2 c=j1↔65<=c.toNat/\c.toNat<=90:=by
 simp[C2,kg]
def Cc(c:UInt8):Ao c=j1↔48<=c.toNat/\c.toNat<=57:=by
 simp[Ao,kg]
def PB(c:UInt8):C8 c=j1↔c.toNat=32\/c.toNat=10:=by
 simp[C8,<-jp]
def FZ(c:UInt8)(h:c.toNat<128):Utf8.encode (c.toNat:Int)=⟨#[c]⟩:=by
 unfold Utf8.encode;have a:Utf8.valid (c.toNat:Int)=j1:=by simp[Utf8.valid];omega
 simp[a,h]
def IW{s:zA}{j k:Nat}(f:j<=k)(d:k<s.size):s.extract j k++⟨#[s[k]]⟩=s.extract j (k+1):=by
 apply ByteArray.ext;simp only[lF,ByteArray.data_extract];apply Array.ext
 .simp only[Array.size_append,Array.size_extract];have:s.data.size=s.size:=rfl;simp;omega
 .intro i b a;have e:s.data.size=s.size:=rfl;simp only[Array.size_append,Array.size_extract,i7,gW,iv]at b a;by_cases g:i<k-j
  .rw[Array.getElem_append_left (by simp;omega)];simp
  ·(have c:i=k-j:=by omega);subst c;rw[Array.getElem_append_right (by simp;omega)];simp[show j+(k-j)=k by omega];rfl
def size_extract{s:zA}{j k:Nat}(a:k<=s.size):(s.extract j k).size=k-j:=by
 simp[iW];omega
def Tw(s:zA)(a:Int)(p:UInt8->Bool)(f:a=2\/a=3)(d:∀c:UInt8,p c=j1->c.toNat<128/\Ei (c.toNat:Int)=a/\¬((c.toNat:Int)=32\/(c.toNat:Int)=10))(ms:mc AZ)(j:Nat):
  ∀(n k:Nat),s.size-k<=n->j<k->k<=s.size->EH s k (ms++[⟨a,j,s.extract j k⟩])=EH s (AC p s k) (ms++[⟨a,j,s.extract j (AC p s k)⟩])
 |n,k,hn,hjk,hk=>by
  by_cases b:k<s.size
  .cases hpk:p s[k] with
   |false=>rw[ET p s k b hpk]
   |true=>
    obtain⟨e,g,h⟩:=d _ hpk;rw[B5 p s k b hpk,Fk _ b,j5 s k b e];simp only;rw[NA h];have i:Co ⟨a,j,s.extract j k⟩ k (s[k].toNat:Int)=j1:=by
     unfold Co;simp only[size_extract hk];rw[gV (by omega),gY f];simp[g]
    rw[gY i];simp only;rw[FZ _ e,IW (by omega) b]
    match n with
    |0=>omega
    |n+1=>exact Tw s a p f d ms j n (k+1) (by omega) (by omega) (by omega)
  .rw[FX p s k b]
def LN(p:UInt8->Bool)(s:zA):∀(n i:Nat),s.size-i<=n->∀h:AC p s i<s.size,p s[AC p s i]=K
 |n,i,hn,h=>by
  by_cases a:i<s.size
  .cases hp:p s[i] with
   |false=>
    have e:=ET p s i a hp;simp only[e];exact hp
   |true=>
    have e:=B5 p s i a hp
    match n with
    |0=>omega
    |n+1=>
     have:=LN p s n (i+1) (by omega) (by rw[<-e];exact h);simp only[e];exact this
  .have e:=FX p s i a;omega
def F7(r:Int):Ei r=2↔97<=r/\r<=122:=by
 unfold Ei;split
 .simp;omega
 .split
  .simp;omega
  .split
   .simp;omega
   .split
    .simp;omega
    .simp;omega
def Hs(r:Int):Ei r=3↔48<=r/\r<=57:=by
 unfold Ei;split
 .simp;omega
 .split
  .simp;omega
  .split
   .simp;omega
   .split
    .simp;omega
    .simp;omega
def PV{s:zA}{a:Int}{p:UInt8->Bool}(f:a=2\/a=3)(n:∀c:UInt8,p c=K->Ei (c.toNat:Int)≠a){j k:Nat}(d:k<=s.size)(o:j<=k)(i:∀h:k<s.size,p s[k]=K):
  IN s ([⟨a,j,s.extract j k⟩]:mc AZ) k:=by
 intro m b;simp at b;subst b;refine ly (ly ⟨by simp only[size_extract d];omega,λh=>?_⟩);unfold Co;simp only[size_extract d];rw[gV (by omega),gY f];have l:=i h;simp only[iw,ne_eq];by_cases g:s[k].toNat<128
 .rw[j5 s k h g];exact n _ l
 .have:=(lK s k h (by omega)).1;intro e;rcases f with rfl|rfl
  .rw[F7]at e;omega
  .rw[Hs]at e;omega
def O7{s:zA}{ms:mc AZ}{m:AZ}{pos:Nat}(h:IN s [m] pos):IN s (ms++[m]) pos:=by
 refine Hu (h m (by simp))
def QC{n:Nat}(h:¬(97<=n/\n<=122))(a:¬(48<=n/\n<=57)):Ei (n:Int)=4\/Ei (n:Int)=5\/Ei (n:Int)=0:=by
 unfold Ei;rw[gV (by omega),gV (by omega)];split
 .simp
 .split<;>simp
def O5{m:AZ}(h:m.kind=4\/m.kind=0\/(m.kind=5/\m.text.toList≠[58]))(p:Nat)(r:Int):Co m p r=K:=by
 unfold Co;split
 .rfl
 .rcases h with h|h|h
  .simp[h]
  .simp[h]
  .simp[h.1,h.2]
theorem DD(s:zA):∀(n a:Nat) (e:mc AZ),s.size-a<=n->IN s e a->EH s a e=e++QM s a
 |n,a,e,hn,d=>by
  by_cases b:a<s.size
  .match n with
   |0=>omega
   |n+1=>
    cases hb:C8 s[a] with
    |true=>
     have x:=(PB _).1 hb;rw[Fk _ b,j5 s a b (by omega)];simp only;(have:Lm e a (s[a].toNat:Int)=e:=by unfold Lm;rw[gY (by omega)]);rw[this,DD s n (a+1) e (by omega) d.far,Wt (UH b hb)]
    |false=>
     (have x:¬(s[a].toNat=32\/s[a].toNat=10):=λh=>by rw[(PB _).2 h]at hb;cases hb);have v:=T4 b hb;have y:¬(((Utf8.decode s a).1:Int)=32\/((Utf8.decode s a).1:Int)=10):=by
      by_cases i:s[a].toNat<128
      .rw[j5 s a b i];simp only;omega
      .have:=(lK s a b (by omega)).1;omega
     rw[F5 v b,Fk _ b,d.now b y];have f:=Qc s a b;unfold DQ at f⊢;rw[Ey b]at f⊢;cases hl:Az s[a] with
     |true=>
      have q:=(Cs _).1 hl;simp only[hl,if_true]at f⊢;rw[j5 s a b (by omega)];simp only;have k:Cf a (s[a].toNat:Int)=⟨2,a,s.extract a (a+1)⟩:=by
       unfold Cf;rw[(F7 _).2 (by omega),FZ _ (by omega),<-IW (ig _) b];simp
      rw[k,Tw s 2 Az (lx rfl) (λc d=>by have:=(Cs _).1 d;exact⟨by omega,(F7 _).2 (by omega),by omega⟩) e a _ (a+1) (ig _) (by omega) (by omega),<-B5 Az s a b hl];have o:=Ci Az s a (by omega);rw[DD s n _ _ (by omega) (O7 (PV (lx rfl) (λc d g=>by rw[F7]at g;rw[(Cs c).2 (by omega)]at d;cases d) o (by omega) (LN Az s _ a (ig _))))];simp
     |false=>
      (have q:¬(97<=s[a].toNat/\s[a].toNat<=122):=λh=>by rw[(Cs _).2 h]at hl;cases hl);cases hd:Ao s[a] with
      |true=>
       have r:=(Cc _).1 hd;simp only[hl,hd,if_true,gO,if_false]at f⊢;rw[j5 s a b (by omega)];simp only;have k:Cf a (s[a].toNat:Int)=⟨3,a,s.extract a (a+1)⟩:=by
        unfold Cf;rw[(Hs _).2 (by omega),FZ _ (by omega),<-IW (ig _) b];simp
       rw[k,Tw s 3 Ao (ly rfl) (λc d=>by have:=(Cc _).1 d;exact⟨by omega,(Hs _).2 (by omega),by omega⟩) e a _ (a+1) (ig _) (by omega) (by omega),<-B5 Ao s a b hd];have o:=Ci Ao s a (by omega);rw[DD s n _ _ (by omega) (O7 (PV (ly rfl) (λc d g=>by rw[Hs]at g;rw[(Cc c).2 (by omega)]at d;cases d) o (by omega) (LN Ao s _ a (ig _))))];simp
      |false=>
       (have r:¬(48<=s[a].toNat/\s[a].toNat<=57):=λh=>by rw[(Cc _).2 h]at hd;cases hd);simp only[hl,hd,gO,if_false]at f⊢;by_cases j:s[a]=58
       ·(have z:s[a].toNat=58:=by rw[j];rfl);rw[j5 s a b (by omega)]at f⊢;simp only at f⊢;have k:Cf a (s[a].toNat:Int)=⟨5,a,⟨#[58]⟩⟩:=by
         unfold Cf;rw[FZ _ (by omega),j];rfl
        rw[k];cases hat:D1 s (a+1) 45 with
        |true=>
         have m:=Fl hat;have p:s[a+1]=45:=by
          unfold D1 at hat;simpa[m] using hat
         (have u:s[a+1].toNat=45:=by rw[p];rfl);rw[gY ⟨j,rfl⟩];simp only;rw[Fk _ m,j5 s (a+1) m (by omega)];simp only;rw[NA (by omega)];have t:Co ⟨5,a,⟨#[58]⟩⟩ (a+1) (s[a+1].toNat:Int)=j1:=by
          rw[u];unfold Co;rw[gV (by simp;rfl)];simp
         rw[gY t];simp only;rw[FZ _ (by omega),p];have w:(⟨#[58]⟩:zA)++⟨#[45]⟩=⟨#[58,45]⟩:=rfl;rw[w,DD s n (a+1+1) _ (by omega) (Hu (lx (O5 (ly (ly ⟨rfl,by simp⟩)))))];simp
        |false=>
         rw[gV (by simp)];simp only;rw[DD s n (a+1) _ (by omega) (Hu (ly (ly ⟨by simp;rfl,λl=>?_⟩)))]
         .simp
         .unfold Co;rw[gV (by simp;rfl)];simp;intro g;by_cases i:s[a+1].toNat<128
          .rw[j5 s (a+1) l i]at g;simp only at g;unfold D1 at hat;simp[l]at hat;apply hat;apply jp.1;rw[show(45:UInt8).toNat=45 from rfl]
           omega
          .have:=(lK s (a+1) l (by omega)).1;omega
       .rw[gV (by simp[j])]at f⊢;simp only at f⊢;refine(DD s n _ _ (by omega) (Hu (lx (O5 ?_)))).trans (by simp);by_cases i:s[a].toNat<128
        .rw[j5 s a b i];unfold Cf;simp only;rcases QC q r with h|h|h
         .exact lx h
         .refine ly (ly ⟨h,?_⟩);rw[FZ _ i];intro g;apply j;simpa using g
         .exact ly (lx h)
        .have:=(lK s a b (by omega)).1;refine ly (lx ?_);unfold Cf;simp only;unfold Ei;rw[gV (by omega),gV (by omega),gV (by omega),gV (by omega)]
  .rw[Ob _ b,IM (by rw[YU b];exact b)];simp
def CM(s:zA)(a:Nat):mc AZ:=(QM s a).map In++[EC s]
def Jn(s:zA):C4 s=CM s 0:=by
 unfold C4 CM;rw[DD s _ 0 [] (ig _) (λm a=>by simp at a)];simp
