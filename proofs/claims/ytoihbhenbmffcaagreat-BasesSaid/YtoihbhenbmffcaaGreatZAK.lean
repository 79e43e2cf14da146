import Derived.Laws.RangeAny
import Derived.Test.YtoihbhenbmffcaaGreatZAH
set_option linter.all false
set_option maxHeartbeats 0
open List renaming length->Z,toArray->j1,replicate->kD
open Option renaming none->Y,some->V
open Go.Value renaming slice->U,int->X,string->O,bool->k0
open Bool renaming false->K,true->hG
open Go.IntKind renaming i64->J
open Go.Obj renaming cells->jj
open Go.Ending renaming returned->j3
open Or renaming inl->kn,inr->kp
open Go renaming World->kq,Value->ks
open Go.RowKit renaming Hid->kt
open Go.World renaming cell?->ku,ownsRow->kw
open ByteArray renaming empty->kB
open Prod renaming fst->kE
open Go.Op renaming bytesLess->kH
namespace Go.Proofs.YtoihbhenbmffcaaGreat
open Go.RowKit Go.Proofs.Tryz
variable{s t:zA}{j n k b m i:Nat}{I:Int}{g:UInt8}{M:kJ Nat}{w v u:kq}{z:ks}{y x:kJ ks}{T:TypeId}{B:Bool}
def DO(s:zA)(j:Nat):A0×Nat:=
 if Az (Cw s j)then(⟨2,j,s.extract j (AM Az s j)⟩,AM Az s j)
 else if Aq (Cw s j)then(⟨3,j,s.extract j (AM Aq s j)⟩,AM Aq s j)
 else if Cw s j=58/\DV s (j+1) 45=hG then(⟨5,j,⟨#[58,45]⟩⟩,j+2)
 else(Cj j (Utf8.decode s j).1,j+(Utf8.decode s j).2)
def Ep(h:j<s.size):Cw s j=s[j]:=by simp[Cw,h]
def P8(s:zA)(j:Nat)(h:j<s.size):j<(DO s j).2:=by
 unfold DO;split
 .rename_i a;rw[Ep h]at a;simp only;rw[Ce _ _ _ h a];have:=Cr Az s (j+1);omega
 .split
  .rename_i a;rw[Ep h]at a;simp only;rw[Ce _ _ _ h a];have:=Cr Aq s (j+1);omega
  .split
   .simp only;omega
   .have:=Ip s j h;simp only;omega
def Qx(s:zA)(a:Nat):kJ A0:=
 if h:Ae s a<s.size then
  have _h1:a<s.size:=Nat.lt_of_le_of_lt (BR s a) h;have _h2:a<(DO s (Ae s a)).2:=Nat.lt_of_le_of_lt (BR s a) (P8 s (Ae s a) h)
  (DO s (Ae s a)).1::Qx s (DO s (Ae s a)).2
 else[]
def IG(h:¬Ae s n<s.size):Qx s n=[]:=by unfold Qx;simp[h]
def F4(b:Ae s n=j)(h:j<s.size):Qx s n=(DO s j).1::Qx s (DO s j).2:=by
 subst b
 conv=>lhs;unfold Qx
 simp[h]
def VO(h:Ae s n=Ae s (n+1)):Qx s n=Qx s (n+1):=by
 by_cases b:Ae s (n+1)<s.size
 .rw[F4 h b,F4 rfl b]
 .rw[IG b,IG (by rw[h];exact b)]
def T4(h:n<s.size)(b:Di s[n]=hG):Ae s n=Ae s (n+1):=by
 conv=>lhs;unfold Ae
 simp[h,b]
def Tr(h:n<s.size)(b:Di s[n]=K):Ae s n=n:=by
 unfold Ae;simp[h,b]
def X7(h:¬n<s.size):Ae s n=n:=by
 unfold Ae;simp[h]
def II(s:zA)(ms:kJ A0)(pos:Nat):Prop:=∀m,ms.getLast?=V m->
 (∀p r,CA m p r=K)\/m.place+m.text.size<pos\/(m.place+m.text.size=pos/\(pos<s.size->CA m pos (Utf8.decode s pos).1=K))
def V9{m:A0}(h:m.place+m.text.size<n):CA m n I=K:=by
 unfold CA;rw[fF (by omega)]
def II.now{b:kJ A0}(h:II s b n)(c:n<s.size)(e:¬(((Utf8.decode s n).1:Int)=32\/((Utf8.decode s n).1:Int)=10)):
  KY b n (Utf8.decode s n).1=b++[Cj n (Utf8.decode s n).1]:=by
 unfold KY;rw[fB e];split
 .rename_i m d;have:CA m n (Utf8.decode s n).1=K:=by
   rcases h m d with a|a|a
   .exact a _ _
   .exact V9 a
   .exact a.2 c
  simp[this]
 .rfl
def II.far{b:kJ A0}(h:II s b n):II s b (n+1):=by
 intro m c;rcases h m c with a|a|a
 .exact kn a
 .exact kp (kn (by omega))
 .exact kp (kn (by omega))
def Hr{b:kJ A0}{m:A0}(h:(∀p r,CA m p r=K)\/m.place+m.text.size<n\/(m.place+m.text.size=n/\(n<s.size->CA m n (Utf8.decode s n).1=K))):II s (b++[m]) n:=by
 intro c a;simp at a;subst a;exact h
def CH(c:UInt8):Az c=hG↔97<=c.toNat/\c.toNat<=122:=by
 simp[Az,i8]
def EV(c:UInt8):Dk c=hG↔65<=c.toNat/\c.toNat<=90:=by
 simp[Dk,i8]
def Ca(c:UInt8):Aq c=hG↔48<=c.toNat/\c.toNat<=57:=by
 simp[Aq,i8]
def Pt(c:UInt8):Di c=hG↔c.toNat=32\/c.toNat=10:=by
 simp[Di,<-il]
def F0(c:UInt8)(h:c.toNat<128):Utf8.encode (c.toNat:Int)=⟨#[c]⟩:=by
 unfold Utf8.encode;have a:Utf8.valid (c.toNat:Int)=hG:=by simp[Utf8.valid];omega
 simp[a,h]
def IU(f:j<=k)(d:k<s.size):s.extract j k++⟨#[s[k]]⟩=s.extract j (k+1):=by
 apply ByteArray.ext;simp only[ke,ByteArray.data_extract];apply Array.ext
 .simp only[Array.size_append,Array.size_extract];have:s.data.size=s.size:=rfl;simp;omega
 .intro i b a;have e:s.data.size=s.size:=rfl;simp only[Array.size_append,Array.size_extract,gS,fD,gh]at b a;by_cases g:i<k-j
  .rw[Array.getElem_append_left (by simp;omega)];simp
  ·(have c:i=k-j:=by omega);subst c;rw[Array.getElem_append_right (by simp;omega)];simp[show j+(k-j)=k by omega];rfl
def size_extract{s:zA}{j k:Nat}(a:k<=s.size):(s.extract j k).size=k-j:=by
 simp[iA];omega
def S4(s:zA)(a:Int)(p:UInt8->Bool)(g:a=2\/a=3)(e:∀c:UInt8,p c=hG->c.toNat<128/\D7 (c.toNat:Int)=a/\¬((c.toNat:Int)=32\/(c.toNat:Int)=10))(d:kJ A0)(j:Nat):
  ∀(n k:Nat),s.size-k<=n->j<k->k<=s.size->EF s k (d++[⟨a,j,s.extract j k⟩])=EF s (AM p s k) (d++[⟨a,j,s.extract j (AM p s k)⟩])
 |n,k,hn,hjk,hk=>by
  by_cases b:k<s.size
  .cases hpk:p s[k] with
   |false=>rw[ER p s k b hpk]
   |true=>
    obtain⟨f,h,i⟩:=e _ hpk;rw[Ce p s k b hpk,Fl _ b,iW s k b f];simp only;rw[ND i];have l:CA ⟨a,j,s.extract j k⟩ k (s[k].toNat:Int)=hG:=by
     unfold CA;simp only[size_extract hk];rw[fB (by omega),fF g];simp[h]
    rw[fF l];simp only;rw[F0 _ f,IU (by omega) b]
    match n with
    |0=>omega
    |n+1=>exact S4 s a p g e d j n (k+1) (by omega) (by omega) (by omega)
  .rw[FY p s k b]
def Lt(p:UInt8->Bool)(s:zA):∀(n i:Nat),s.size-i<=n->∀h:AM p s i<s.size,p s[AM p s i]=K
 |n,i,hn,h=>by
  by_cases a:i<s.size
  .cases hp:p s[i] with
   |false=>
    have e:=ER p s i a hp;simp only[e];exact hp
   |true=>
    have e:=Ce p s i a hp
    match n with
    |0=>omega
    |n+1=>
     have:=Lt p s n (i+1) (by omega) (by rw[<-e];exact h);simp only[e];exact this
  .have e:=FY p s i a;omega
def F7(r:Int):D7 r=2↔97<=r/\r<=122:=by
 unfold D7;split
 .simp;omega
 .split
  .simp;omega
  .split
   .simp;omega
   .split
    .simp;omega
    .simp;omega
def Hp(r:Int):D7 r=3↔48<=r/\r<=57:=by
 unfold D7;split
 .simp;omega
 .split
  .simp;omega
  .split
   .simp;omega
   .split
    .simp;omega
    .simp;omega
def PK{p:UInt8->Bool}(e:I=2\/I=3)(l:∀c:UInt8,p c=K->D7 (c.toNat:Int)≠I)(b:k<=s.size)(n:j<=k)(g:∀h:k<s.size,p s[k]=K):
  II s ([⟨I,j,s.extract j k⟩]:kJ A0) k:=by
 intro m a;simp at a;subst a;refine kp (kp ⟨by simp only[size_extract b];omega,λh=>?_⟩);unfold CA;simp only[size_extract b];rw[fB (by omega),fF e];have i:=g h;simp only[gm,ne_eq];by_cases f:s[k].toNat<128
 .rw[iW s k h f];exact l _ i
 .have:=(kj s k h (by omega)).1;intro d;rcases e with rfl|rfl
  .rw[F7]at d;omega
  .rw[Hp]at d;omega
def O8{a:kJ A0}{m:A0}(h:II s [m] n):II s (a++[m]) n:=by
 refine Hr (h m (by simp))
def Qq(h:¬(97<=n/\n<=122))(a:¬(48<=n/\n<=57)):D7 (n:Int)=4\/D7 (n:Int)=5\/D7 (n:Int)=0:=by
 unfold D7;rw[fB (by omega),fB (by omega)];split
 .simp
 .split<;>simp
def O6{m:A0}(h:m.kind=4\/m.kind=0\/(m.kind=5/\m.text.toList≠[58]))(p:Nat)(r:Int):CA m p r=K:=by
 unfold CA;split
 .rfl
 .rcases h with h|h|h
  .simp[h]
  .simp[h]
  .simp[h.1,h.2]
theorem DC(s:zA):∀(n a:Nat) (e:kJ A0),s.size-a<=n->II s e a->EF s a e=e++Qx s a
 |n,a,e,hn,d=>by
  by_cases b:a<s.size
  .match n with
   |0=>omega
   |n+1=>
    cases hb:Di s[a] with
    |true=>
     have x:=(Pt _).1 hb;rw[Fl _ b,iW s a b (by omega)];simp only;(have:KY e a (s[a].toNat:Int)=e:=by unfold KY;rw[fF (by omega)]);rw[this,DC s n (a+1) e (by omega) d.far,VO (T4 b hb)]
    |false=>
     (have x:¬(s[a].toNat=32\/s[a].toNat=10):=λh=>by rw[(Pt _).2 h]at hb;cases hb);have v:=Tr b hb;have y:¬(((Utf8.decode s a).1:Int)=32\/((Utf8.decode s a).1:Int)=10):=by
      by_cases i:s[a].toNat<128
      .rw[iW s a b i];simp only;omega
      .have:=(kj s a b (by omega)).1;omega
     rw[F4 v b,Fl _ b,d.now b y];have f:=P8 s a b;unfold DO at f⊢;rw[Ep b]at f⊢;cases hl:Az s[a] with
     |true=>
      have q:=(CH _).1 hl;simp only[hl,if_true]at f⊢;rw[iW s a b (by omega)];simp only;have k:Cj a (s[a].toNat:Int)=⟨2,a,s.extract a (a+1)⟩:=by
       unfold Cj;rw[(F7 _).2 (by omega),F0 _ (by omega),<-IU (fJ _) b];simp
      rw[k,S4 s 2 Az (kn rfl) (λc d=>by have:=(CH _).1 d;exact⟨by omega,(F7 _).2 (by omega),by omega⟩) e a _ (a+1) (fJ _) (by omega) (by omega),<-Ce Az s a b hl];have o:=C3 Az s a (by omega);rw[DC s n _ _ (by omega) (O8 (PK (kn rfl) (λc d g=>by rw[F7]at g;rw[(CH c).2 (by omega)]at d;cases d) o (by omega) (Lt Az s _ a (fJ _))))];simp
     |false=>
      (have q:¬(97<=s[a].toNat/\s[a].toNat<=122):=λh=>by rw[(CH _).2 h]at hl;cases hl);cases hd:Aq s[a] with
      |true=>
       have r:=(Ca _).1 hd;simp only[hl,hd,if_true,fq,if_false]at f⊢;rw[iW s a b (by omega)];simp only;have k:Cj a (s[a].toNat:Int)=⟨3,a,s.extract a (a+1)⟩:=by
        unfold Cj;rw[(Hp _).2 (by omega),F0 _ (by omega),<-IU (fJ _) b];simp
       rw[k,S4 s 3 Aq (kp rfl) (λc d=>by have:=(Ca _).1 d;exact⟨by omega,(Hp _).2 (by omega),by omega⟩) e a _ (a+1) (fJ _) (by omega) (by omega),<-Ce Aq s a b hd];have o:=C3 Aq s a (by omega);rw[DC s n _ _ (by omega) (O8 (PK (kp rfl) (λc d g=>by rw[Hp]at g;rw[(Ca c).2 (by omega)]at d;cases d) o (by omega) (Lt Aq s _ a (fJ _))))];simp
      |false=>
       (have r:¬(48<=s[a].toNat/\s[a].toNat<=57):=λh=>by rw[(Ca _).2 h]at hd;cases hd);simp only[hl,hd,fq,if_false]at f⊢;by_cases j:s[a]=58
       ·(have z:s[a].toNat=58:=by rw[j];rfl);rw[iW s a b (by omega)]at f⊢;simp only at f⊢;have k:Cj a (s[a].toNat:Int)=⟨5,a,⟨#[58]⟩⟩:=by
         unfold Cj;rw[F0 _ (by omega),j];rfl
        rw[k];cases hat:DV s (a+1) 45 with
        |true=>
         have m:=Fm hat;have p:s[a+1]=45:=by
          unfold DV at hat;simpa[m] using hat
         (have u:s[a+1].toNat=45:=by rw[p];rfl);rw[fF ⟨j,rfl⟩];simp only;rw[Fl _ m,iW s (a+1) m (by omega)];simp only;rw[ND (by omega)];have t:CA ⟨5,a,⟨#[58]⟩⟩ (a+1) (s[a+1].toNat:Int)=hG:=by
          rw[u];unfold CA;rw[fB (by simp;rfl)];simp
         rw[fF t];simp only;rw[F0 _ (by omega),p];have w:(⟨#[58]⟩:zA)++⟨#[45]⟩=⟨#[58,45]⟩:=rfl;rw[w,DC s n (a+1+1) _ (by omega) (Hr (kn (O6 (kp (kp ⟨rfl,by simp⟩)))))];simp
        |false=>
         rw[fB (by simp)];simp only;rw[DC s n (a+1) _ (by omega) (Hr (kp (kp ⟨by simp;rfl,λl=>?_⟩)))]
         .simp
         .unfold CA;rw[fB (by simp;rfl)];simp;intro g;by_cases i:s[a+1].toNat<128
          .rw[iW s (a+1) l i]at g;simp only at g;unfold DV at hat;simp[l]at hat;apply hat;apply il.1;rw[show(45:UInt8).toNat=45 from rfl]
           omega
          .have:=(kj s (a+1) l (by omega)).1;omega
       .rw[fB (by simp[j])]at f⊢;simp only at f⊢;refine(DC s n _ _ (by omega) (Hr (kn (O6 ?_)))).trans (by simp);by_cases i:s[a].toNat<128
        .rw[iW s a b i];unfold Cj;simp only;rcases Qq q r with h|h|h
         .exact kn h
         .refine kp (kp ⟨h,?_⟩);rw[F0 _ i];intro g;apply j;simpa using g
         .exact kp (kn h)
        .have:=(kj s a b (by omega)).1;refine kp (kn ?_);unfold Cj;simp only;unfold D7;rw[fB (by omega),fB (by omega),fB (by omega),fB (by omega)]
  .rw[Oe _ b,IG (by rw[X7 b];exact b)];simp
def CV(s:zA)(a:Nat):kJ A0:=(Qx s a).map Im++[Ex s]
def Lv(s:zA):Ez s=CV s 0:=by
 unfold Ez CV;rw[DC s _ 0 [] (fJ _) (λm a=>by simp at a)];simp
def A1(s:zA):Prop:=(∃c r,s.toList=c::r/\97<=c.toNat/\c.toNat<=122)\/aw s.toList=hG
def CP{r:kJ UInt8}(h:s.toList=g::r):Cw s 0=g/\s.size=Z r+1:=by
 have b:s.size=Z r+1:=by rw[BY,h];rfl
 refine⟨?_,b⟩;unfold Cw;rw[dif_pos (by omega)];obtain⟨d,a,_⟩:=Hq s (by omega);rw[h]at a;exact(List.cons.inj a).1.symm
def Kj(a:48<=g.toNat)(b:g.toNat<=57):Aq g=hG:=(Ca _).2 ⟨a,b⟩
def I8(a:97<=g.toNat):Aq g=K:=by
 cases h:Aq g with
 |false=>rfl
 |true=>have:=(Ca _).1 h;omega
def Pq(x:UInt8)(l m:kJ UInt8):kH (x::l) (x::m)=kH l m:=by
 simp[kH]
def Zp{x y:UInt8}(h:x.toNat<y.toNat)(l m:kJ UInt8):kH (x::l) (y::m)=hG:=by
 have:x<y:=h;simp[kH,this]
def Zl{x y:UInt8}(h:y.toNat<x.toNat)(l m:kJ UInt8):kH (x::l) (y::m)=K:=by
 have a:¬x<y:=by
  intro c;have:x.toNat<y.toNat:=c;omega
 have b:(x==y)=K:=by
  rw[gm];intro e;rw[e]at h;omega
 simp[kH,a,b]
def Fw(h:aw s.toList=hG):(AA s).toList=kD (3-Z s.toList) 48++s.toList:=by
 have g:Hx s=hG:=by
  unfold Hx;rcases EQ h with⟨c,e,b,a⟩|⟨c,d,e,b,a⟩|⟨c,d,f,e,b,a⟩<;>rw[e,EL]<;>simp<;>omega
 have j:Z s.toList<=3:=by
  rcases EQ h with⟨c,e,b,a⟩|⟨c,d,e,b,a⟩|⟨c,d,f,e,b,a⟩<;>rw[e]<;>simp
 have i:=BY s;unfold AA;rw[g,fF rfl,La 3 s (by omega) (by omega),i]
def E4{r:kJ UInt8}(h:s.toList=g::r)(b:97<=g.toNat):AA s=s:=by
 have a:Hx s=K:=by
  unfold Hx;rw[h,EL];simp;omega
 unfold AA;rw[a];rfl
def PD(l:A1 s)(i:A1 t):kH (AA s).toList (AA t).toList=Fu s t:=by
 rcases l with⟨c,r,p,q,D⟩|l
 .obtain⟨y,E⟩:=CP p;rcases i with⟨d,m,k,o,z⟩|i
  .obtain⟨u,B⟩:=CP k;rw[E4 p q,E4 k o];unfold Fu;rw[y,u,I8 q,I8 o];rfl
  .rw[E4 p q,Fw i];unfold Fu;rw[y,I8 q];rcases EQ i with⟨d,e,j,h⟩|⟨d,f,e,j,h⟩|⟨d,f,g,e,j,h⟩;all_goals
    rw[(CP e).1,Kj (by omega) h,e,p];refine Eq.trans (Zl ?_ _ _) rfl
    first|omega|(show(48:UInt8).toNat<_;show 48<_;omega)
 .rcases i with⟨d,m,k,o,z⟩|i
  .obtain⟨u,B⟩:=CP k;rw[E4 k o,Fw l];unfold Fu;rw[u,I8 o];rcases EQ l with⟨c,e,j,h⟩|⟨c,f,e,j,h⟩|⟨c,f,g,e,j,h⟩;all_goals
    rw[(CP e).1,Kj (by omega) h,e,k];refine Eq.trans (Zp ?_ _ _) rfl
    first|omega|(show(48:UInt8).toNat<_;show 48<_;omega)
  .rw[Fw l,Fw i];unfold Fu;rcases EQ l with⟨c,e,j,h⟩|⟨c,f,e,j,h⟩|⟨c,f,g,e,j,h⟩<;>
    rcases EQ i with⟨w,n,x,v⟩|⟨w,A,n,x,v⟩|⟨w,A,C,n,x,v⟩<;>
    rw[(CP e).1,(CP n).1,Kj (by omega) h,Kj (by omega) v,(CP e).2,(CP n).2,e,n]
   .simp[kD,Pq]
   .exact Eq.trans (Eq.trans (Pq _ _ _) (Zp (by show 48<_;omega) _ _)) rfl
   .exact Eq.trans (Zp (by show 48<_;omega) _ _) rfl
   .exact Eq.trans (Eq.trans (Pq _ _ _) (Zl (by show 48<_;omega) _ _)) rfl
   .simp[kD,Pq]
   .exact Eq.trans (Zp (by show 48<_;omega) _ _) rfl
   .exact Eq.trans (Zl (by show 48<_;omega) _ _) rfl
   .exact Eq.trans (Zl (by show 48<_;omega) _ _) rfl
   .simp[kD]
def Nh(s:zA):(s.extract 1 s.size).toList=s.toList.drop 1:=by
 rw[gC,gC,ByteArray.data_extract,Array.toList_extract];have h:s.size=Z s.data.toList:=rfl;simp only[List.extract];rw[fo (by rw[gD];omega)]
def E3{r:kJ UInt8}(h:s.toList=g::r):(E7 (k+1) s).toList=if 0<Z r/\g=48 then(E7 k (s.extract 1 s.size)).toList else s.toList:=by
 obtain⟨e,d⟩:=CP h;rw[E7,e,d];by_cases a:0<Z r/\g=48
 .rw[fF ⟨by omega,a.2⟩,fF a]
 .rw[fB (λb=>a ⟨by omega,b.2⟩),fB a]
def G6(k:A1 s):BN (AA s)=s:=by
 rcases k with⟨c,r,e,b,m⟩|k
 .rw[E4 e b];unfold BN;have i:Hx s=K:=by
   unfold Hx;rw[e,EL];simp;omega
  rw[i];rfl
 .have g:=Fw k;apply toList_inj;have l:(AA s).size=Z (AA s).toList:=BY _;generalize AA s=p at g l⊢;unfold BN;rcases EQ k with⟨c,e,b,m⟩|⟨c,d,e,b,m⟩|⟨c,d,f,e,b,m⟩
  .rw[e]at g⊢;have a:p.toList=[48,48,c]:=g;(have i:Hx p=hG:=by unfold Hx;rw[a,EL];rfl);rw[i,fF rfl,l,a];show(E7 3 p).toList=[c];rw[E3 a,fF ⟨by simp,rfl⟩];(have j:(p.extract 1 p.size).toList=[48,c]:=by rw[Nh,a];rfl);rw[E3 j,fF ⟨by simp,rfl⟩];(have q:((p.extract 1 p.size).extract 1 (p.extract 1 p.size).size).toList=[c]:=by rw[Nh,j];rfl);rw[E3 q,fB (by simp),q]
  .rw[e]at g⊢;have a:p.toList=[48,c,d]:=g;(have i:Hx p=hG:=by unfold Hx;rw[a,EL];rfl);(have o:c≠48:=λn=>by rw[n]at b;exact absurd b (by decide));rw[i,fF rfl,l,a];show(E7 3 p).toList=[c,d];rw[E3 a,fF ⟨by simp,rfl⟩];(have j:(p.extract 1 p.size).toList=[c,d]:=by rw[Nh,a];rfl);rw[E3 j,fB (λh=>o h.2),j]
  .rw[e]at g⊢;have a:p.toList=[c,d,f]:=g;(have i:Hx p=hG:=by unfold Hx;rw[a,EL];simp;omega);(have o:c≠48:=λn=>by rw[n]at b;exact absurd b (by decide));rw[i,fF rfl,l,a];show(E7 3 p).toList=[c,d,f];rw[E3 a,fB (λh=>o h.2),a]
def EW(c:A1 s)(d:A1 t)(h:AA s=AA t):s=t:=by
 rw[<-G6 c,<-G6 d,h]
theorem Tryz.info166:(Tryz.prog.info? 166).map (λi=>(i.zero,i.size,i.bytes))=V (V (.agg #[X J 0,X J 0,X J 0,O ⟨#[]⟩,U Y 0 0,X .i32 0,O ⟨#[]⟩,X .i32 0,O ⟨#[]⟩]),9,112):=by kernel_rfl
structure PL where
 place:Int
 sort:Int
 ap:Int
 an:zA
 ts:kJ AO
 l:AO
 r:AO
def Jr:Zt->PL
 | .inl (pl,so,p,s,ts)=>⟨pl,so,p,s,ts,AD,AD⟩
 | .inr c=>⟨c.place,c.sort,0,kB,[],c.left,c.right⟩
abbrev OR:=PL×ks
def Aw(p:OR):kJ ks:=[X J p.1.place,X J p.1.sort,X J p.1.ap,O p.1.an,p.2,X .i32 p.1.l.v,O p.1.l.s,X .i32 p.1.r.v,O p.1.r.s]
def JI(w:kq)(base:Nat)(p:OR):Prop:=kw w base 164 2 p.2 (Z p.1.ts) (p.1.ts.flatMap Ap)
def JI.zS{p:OR}(h:JI w n p)(k:Ac M w v)(a:∀i,p.2.ownBlock=V i->i∉M):JI v n p:=Am h k a
def JI.kept{w w':kq}{p:OR}(h:JI w n p)(k:Ac M w w')(a:∀i,i∈M->i<n:=by simp):JI w' n p:=Ad h k a
def WI.uni{g:kJ A0}{e:Ending}{l:Zt}(d:Hh g m=.ok (l,n))(h:WI b z g I w e v (.ok (l,n))):
  ∃i f,e=j3 (.tuple #[.agg (j1 (Aw (Jr l,U i (Z (Jr l).ts) f))),k0 hG])/\JI v w.heap.size (Jr l,U i (Z (Jr l).ts) f)/\Ch v b z g n I/\Ac [b] w v:=by
 cases l with
 |inl a=>
  obtain⟨E,x,p,s,G⟩:=a;obtain⟨A,y,rfl,r,o,k,j⟩:=h;obtain⟨i,f,rfl⟩:=Aj o;exact⟨i,f,rfl,Al o r,k,j⟩
 |inr c=>
  have u:Hf g m=.ok (c,n):=by
   unfold Hh at d;split at d
   .split at d<;>simp at d
   .split at d
    .split at d<;>simp at d
    .split at d
     .simp at d
     .rename_i t;simp only[gO,gA,Sum.inr.injEq]at d;rw[t];simp[d]
  have q:=R1 u;obtain⟨f,B,C,F,D⟩:=c;simp only at q;subst q;obtain⟨rfl,k,j⟩:=h;exact⟨Y,0,rfl,fK _ _ _ _,k,j⟩
def PV{b:kJ A0}:∀(k a:Nat) (d:kJ AO) {c:kJ AO} {n:Nat},Z b-a<=k->Gj b a d=.ok (c,n)->a<n
 |k,a,d,c,n,hk,h=>by
  unfold Gj at h;split at h
  .rename_i e;split at h
   .cases h
   .split at h
    .match k with
     |0=>omega
     |k+1=>have:=PV k (a+2) _ (by omega) h;omega
    .split at h
     .simp only[gO,gA]at h;omega
     .cases h
  .cases h
def Li{b:kJ A0}{a:Nat×zA×kJ AO}(h:ET b m=.ok (a,n)):m<n:=by
 unfold ET at h;split at h
 .split at h
  .split at h
   .cases h
   .rename_i c;simp only[gO,gA]at h;have:=PV _ _ _ (fJ _) c;omega
  .cases h
 .cases h
def YB{a:kJ A0}{l:Zq}(h:Hf a m=.ok (l,n)):m<n:=by
 unfold Hf at h;split at h
 .cases h
 .rename_i c;have d:=FD c;split at h
  .cases h
  .split at h
   .cases h
   .rename_i b;have e:=FD b;simp only[gO,gA]at h;omega
def Iz{b:kJ A0}{l:Zt}(h:Hh b m=.ok (l,n)):m<n:=by
 unfold Hh at h;split at h
 .split at h
  .cases h
  .rename_i a;have:=Li a;simp only[gO,gA]at h;omega
 .split at h
  .split at h
   .cases h
   .rename_i a;have:=Li a;simp only[gO,gA]at h;omega
  .split at h
   .cases h
   .rename_i a;have:=YB a;simp only[gO,gA]at h;omega
def Ft(ms:kJ A0)(nx:Nat)(acc:kJ PL):Except Int (kJ PL×Nat):=
 if _h:nx<Z ms then
  match Hh ms nx with
  | .error p=> .error p
  | .ok (l,n)=>
   if _h2:nx<n then
    if BE (Au ms n) Hs then Ft ms (n+1) (acc++[Jr l])else .ok (acc++[Jr l],n)
   else .error 0
 else .error 0
def Hm{a:kJ A0}{c:kJ PL}(h:n<Z a)(b:Hh a n=.error I):Ft a n c=.error I:=by
 unfold Ft;simp[h,b]
def Mx{a:kJ A0}{acc:kJ PL}{l:Zt}(h:m<Z a)(b:Hh a m=.ok (l,n)):
  Ft a m acc=if BE (Au a n) Hs then Ft a (n+1) (acc++[Jr l])else .ok (acc++[Jr l],n):=by
 have c:=Iz b
 conv=>lhs;unfold Ft
 simp[h,b,c]
structure CF(w:kq)(base:Nat)(v:ks)(ls:kJ OR):Prop where
 row:kw w base 166 9 v (Z ls) (ls.flatMap Aw)
 each:∀p∈ls,JI w base p/\BV p.2 v
def CF.kept{M:kJ Nat}{w w':kq}{a:Nat}{v:ks}{d:kJ OR}(h:CF w a v d)(k:Ac M w w')(c:∀i,i∈M->i<a:=by simp):CF w' a v d:=
 ⟨Ad h.row k c,λp b=>⟨(h.each p b).1.kept k c,(h.each p b).2⟩⟩
def CF.base{w:kq}{d base':Nat}{v:ks}{b:kJ OR}(h:CF w d v b)(c:base'<=d):CF w base' v b:=
 ⟨Al h.row c,λp a=>⟨Al (h.each p a).1 c,(h.each p a).2⟩⟩
def CF.nil(w:kq)(b:Nat):CF w b (U Y 0 0) []:=⟨fK _ _ _ _,λp a=>by simp at a⟩
def b8(b:Nat)(mv:ks)(ms:kJ A0)(br:Int)(w:kq)(e:Ending)(w':kq):Except Int (kJ PL×Nat)->Prop
 | .ok (ls,nx)=>∃ad cp zE,e=j3 (.tuple #[U ad (Z ls) cp,k0 hG])/\zE.map kE=ls/\CF w' w.heap.size (U ad (Z ls) cp) zE/\Ch w' b mv ms nx br/\Ac [b] w w'
 | .error p=>∃nx,e=j3 (.tuple #[U Y 0 0,k0 K])/\Ch w' b mv ms nx p/\Ac [b] w w'
set_option maxRecDepth 100000
theorem Yc(b:Nat)(n:ks)(a:kJ A0)(I:Nat)(C:Int)(w:kq)(h:Ch w b n a I C)(ok:UV a):
  Calls prog 104 #[.pointer (V ⟨b,0,Y⟩)] w λe w'=>b8 b n a C w e w' (Ft a I []):=by
 obtain⟨i0,HV,HK,HX,HS⟩:=gH Tryz.info166;obtain⟨R,hR⟩:=kK (Ft a I []);rw[hR];have EX:=Ab hR;have HO:=Ab ok;have H7:=h.zK.lt;have H1:=h.len;have EK:kt (∀k,w.heap.size<=k->n.ownBlock≠V k):=λk B e=>by have:=(h.row.lt k e).2;omega
 have h0:=Ab h;clear hR ok h;go_enter func104,ntmps104;go_wp2_with fail
 go_loopg [4] (Z a-I) (λgk o wr=>∃(j:Nat) (acc:kJ OR) (v:Option Addr) (x:Nat),o=U v (Z acc) x/\gk=Z a-j/\kt (Ft a j (acc.map kE)=R)/\kt (Ch wr b n a j C)/\kt (CF wr w.heap.size (U v (Z acc) x) acc)/\kt (Ac [b] w wr)/\Z acc<=j)
 case atStart=>exact⟨I,[],Y,0,rfl,rfl,EX,h0,CF.nil _ _,kL _ _,by simp⟩
 case round=>
  clear h0 EX;obtain⟨j,acc,v,x,rfl,HD,D,HR,E,P,HZ⟩:=hrel;have HG:=Ab HD;clear HD;have EM:=HR.lt;have H4:=P.size;go_wp2_with fail
  refine(aJ b n a j C _ HR HO).mono ?_;intro e f H;cases ht:Hh a j with
  |error q=>
   rw[ht]at H;obtain⟨n9,l,⟨JJ,n8,IS,HC⟩,rfl,G,z⟩:=H;(have HF:kt (R=.error q):=by show _=_;rw[<-Aa D];exact Hm EM ht);have S:=Ab (P.trans z);have s:=Ab G;clear z ht HR E P D G;obtain⟨lp,ls,⟨la,IJ,H5⟩,ll,lr⟩:=l;simp only at HC;subst HC;simp only[Ay];go_wp2;go_ret2;rw[HF.out];exact⟨n9,rfl,s.zJ ((kL [] _).alloc _),S.alloc _⟩
  |ok r=>
   obtain⟨t,u⟩:=r;rw[ht]at H;have HY:=Iz ht;obtain⟨d,c,rfl,W,G,z⟩:=H.uni ht;have M:=Ab (Mx (acc:=acc.map kE) EM ht);clear H ht;generalize Jr t=p at W M⊢;clear t;have K1:=z.size;have CL:=Ad E.row z (by simp;omega);(have EY:kt (∀q∈acc,JI f w.heap.size q/\BV q.2 (U v (Z acc) x)):=λq g=>⟨(E.each q g).1.kept z (by simp;omega),(E.each q g).2⟩);have CC:kt (BV (U d (Z p.ts) c) (U v (Z acc) x)):=λk B he=>by
    have:=(W.lt k B).1;have:=(E.row.lt k he).2;omega
   have FC:=Ab W;have S:=Ab (P.trans z);have s:=Ab G;have FW:=G.lt;clear W G z E P HR;have HE:((f.alloc (jj (j1 (Aw (p,U d (Z p.ts) c))) 166)).alloc (jj (j1 (Aw (p,U d (Z p.ts) c))) 166)).heap[f.heap.size+1]?=V (jj (j1 (Aw (p,U d (Z p.ts) c))) 166 (0,0)):=by
    have hh:=fX (f.alloc (jj (j1 (Aw (p,U d (Z p.ts) c))) 166)) (jj (j1 (Aw (p,U d (Z p.ts) c))) 166);rw[show(f.alloc (jj (j1 (Aw (p,U d (Z p.ts) c))) 166)).heap.size=f.heap.size+1 from by simp]at hh
    exact hh
   have Go:=fw (fw CL (jj (j1 (Aw (p,U d (Z p.ts) c))) 166)) (jj (j1 (Aw (p,U d (Z p.ts) c))) 166);(have H8:Z acc<=1000:=by omega);simp only[Aw];go_wp2_with (at_builtin;refine fO _ rfl (.tmp 14) (.tmp 16) _ rfl w.heap.size 166 i0 _ 9 112 underlying117 HV HK HX HS rfl (by omega) (U v (Z acc) x) (Z acc) (acc.flatMap Aw) rfl Go ⟨f.heap.size+1,0,Y⟩ 1 1 (Aw (p,U d (Z p.ts) c)) rfl rfl (fM (cs:=j1 (Aw (p,U d (Z p.ts) c))) (t:=166) (fr:=(0,0)) HE) (by simp[Value.oneCell',Aw]) (by omega) (by unfold maxLen;omega) (by omega) (by simp;omega) (f.heap.size+1+1) (by simp) ?_;intro Q Bx L BT FA AB HI)
   have F:Ac (U v (Z acc) x).ownBlock.toList f L:=(((kL _ f).alloc _).alloc _).grown FA (λk B=>kn (by simp[B]));(have T:∀i∈(U v (Z acc) x).ownBlock.toList,w.heap.size<=i:=λi m=>(CL.lt i (by simpa using m)).1);have HJ:n.ownBlock≠Y->∀k,n.ownBlock=V k->k<w.heap.size:=λ_ k B=>by
    by_cases g:k<w.heap.size
    .exact g
    .exact absurd B (EK k (by omega))
   have FB:Ch L b n a u C:=⟨s.zK.kept F (λA=>by have:=T b A;omega),Am s.row F (λi m A=>by have:=T i A;exact absurd m (EK i this)),s.ap,s.lt,s.len⟩;have BA:Ac [b] w L:=S.trans' F (λi m=>kp (by have:=T i m;omega));have Jx:w.heap.size<=L.heap.size:=BA.size;have FT:kt (CF L w.heap.size (U (V ⟨Q,0,Y⟩) (Z acc+1) Bx) (acc++[(p,U d (Z p.ts) c)])):=by
    refine⟨by simpa using BT,?_⟩;intro q g;rcases fA.1 g with g|g
    .obtain⟨N,h2⟩:=EY q g;exact⟨N.zS F (λi m A=>h2 i m (by simpa using A)),BV.zY h2 N AB (by omega)⟩
    .simp only[ft]at g;subst g;have N:JI f w.heap.size (p,U d (Z p.ts) c):=Al FC (by omega);exact⟨N.zS F (λi m A=>CC i m (by simpa using A)),BV.zY CC N AB (by omega)⟩
   have E0:=Ab FB;have FP:=Ab BA;have KK:w.heap.size<=Q:=(BT.lt Q rfl).1;clear F T HJ FB BA FA AB HI BT HE Go CL EY CC FC S s;refine(Gv b n a u C Hs _ E0 (Au a u) (Be FW) (HO.seen FW Hs)).mono ?_;rintro e H6 ⟨rfl,y,B9⟩;have Ha:=Ab (FT.kept B9 (by simp;omega));have HH:=Ab (FP.trans B9);clear B9 FT FP E0;cases hs:BE (Au a u) Hs with
   |true=>
    rw[hs]at y;simp only[if_true]at y;have HN:kt (Ft a (u+1) ((acc++[(p,(U d (Z p.ts) c:ks))]).map kE)=R):=by
     show _=_;rw[<-Aa D,Aa M,hs];simp
    have AH:=Ab y;clear y hs D M;go_wp2_with fail
    go_roundg (Z a-(u+1))
    case measure=>have:=Aa HG;omega
    case rel=>exact⟨u+1,acc++[(p,U d (Z p.ts) c)],V ⟨Q,0,Y⟩,Bx,by simp,rfl,HN,AH,by simpa using Ha,HH,by simp;omega⟩
   |false=>
    rw[hs]at y;simp only[fq,if_false]at y;have HF:kt (R=.ok (acc.map kE++[p],u)):=by
     show _=_;rw[<-Aa D,Aa M,hs];simp
    have AH:=Ab y;clear y hs D M;go_wp2;go_ret2;rw[HF.out];exact⟨V ⟨Q,0,Y⟩,Bx,acc++[(p,U d (Z p.ts) c)],by simp,by simp,by simpa using(Aa Ha),Aa AH,Aa HH⟩
def XD:zA:=⟨#[58]⟩
def dl:zA:=⟨#[58,45]⟩
def Xk:zA:=⟨#[46]⟩
structure PC where
 hp:Int
 hn:zA
 zD:kJ AO
 body:kJ PL
def MQ(ms:kJ A0)(n:Nat)(c:PC):Except Int (PC×Nat):=if BE (Au ms n) Xk then .ok (c,n+1)else .error (Au ms n).place
def Cs(ms:kJ A0)(nx:Nat):Except Int (PC×Nat):=
 match ET ms nx with
 | .error p=> .error p
 | .ok ((p,s,ts),n)=>
  if BE (Au ms n) XD then .error (((Au ms n).place:Int)+1)
  else if BE (Au ms n) dl then
   match Ft ms (n+1) [] with
   | .error q=> .error q
   | .ok (ls,n2)=>MQ ms n2 ⟨p,s,ts,ls⟩
  else MQ ms n ⟨p,s,ts,[]⟩
def Ps{b:kJ A0}:∀(k a:Nat) (d:kJ PL) {e:kJ PL} {n:Nat},Z b-a<=k->Ft b a d=.ok (e,n)->a<n
 |k,a,d,e,n,hk,h=>by
  by_cases c:a<Z b
  .cases hl:Hh b a with
   |error p=>rw[Hm c hl]at h;cases h
   |ok r=>
    obtain⟨l,f⟩:=r;have g:=Iz hl;rw[Mx c hl]at h;split at h
    .match k with
     |0=>omega
     |k+1=>have:=Ps k (f+1) _ (by omega) h;omega
    .simp only[gO,gA]at h;omega
  .unfold Ft at h;rw[dif_neg c]at h;cases h
def Ru{a:kJ A0}{c b:PC}(h:MQ a n c=.ok (b,m)):m=n+1:=by
 unfold MQ at h;split at h
 .simp only[gO,gA]at h;exact h.2.symm
 .cases h
def GH{a:kJ A0}{c:PC}(h:Cs a m=.ok (c,n)):m<n:=by
 unfold Cs at h;split at h
 .cases h
 .rename_i d;have f:=Li d;split at h
  .cases h
  .split at h
   .split at h
    .cases h
    .rename_i b;have g:=Ps _ _ _ (fJ _) b;have e:=Ru h;omega
   .have e:=Ru h;omega
def CR(ms:kJ A0)(nx:Nat)(acc:kJ PC):Except Int (kJ PC):=
 if _h:nx<Z ms then
  if(Au ms nx).kind==1 then .ok acc
  else match Cs ms nx with
   | .error p=> .error p
   | .ok (c,n)=>if _h2:nx<n then CR ms n (acc++[c])else .error 0
 else .error 0
def Nd{a:kJ A0}{b:kJ PC}(h:n<Z a)(c:((Au a n).kind==1)=hG):CR a n b=.ok b:=by
 unfold CR;simp[h,c]
def JP{a:kJ A0}{d:kJ PC}(h:n<Z a)(b:((Au a n).kind==1)=K)(c:Cs a n=.error I):CR a n d=.error I:=by
 unfold CR;simp[h,b,c]
def Qp{a:kJ A0}{acc:kJ PC}{c:PC}(h:m<Z a)(d:((Au a m).kind==1)=K)(b:Cs a m=.ok (c,n)):CR a m acc=CR a n (acc++[c]):=by
 have e:=GH b
 conv=>lhs;unfold CR
 simp[h,d,b,e]
def A4(hp:Int)(hn:zA)(hv bv:ks):kJ ks:=[X J hp,O hn,hv,bv]
def AF.zM{N:Nat}(h:AF w N y T)(g:Z y=4)(d c b a:ks):AF ((((w.setCell ⟨N,0,Y⟩ d).setCell ⟨N,1,Y⟩ c).setCell ⟨N,2,Y⟩ b).setCell ⟨N,3,Y⟩ a) N [d,c,b,a] T:=by
 have f:=(((h.set 0 d).set 1 c).set 2 b).set 3 a;have e:(((y.set 0 d).set 1 c).set 2 b).set 3 a=[d,c,b,a]:=by
  match y,g with
  |[_,_,_,_],_=>rfl
 rw[e]at f;exact f
def Ch.zM{d:kJ A0}(h:Ch w b z d n I){N:Nat}(a:N≠b)(c:z.ownBlock≠V N)(i g f e:ks):Ch ((((w.setCell ⟨N,0,Y⟩ i).setCell ⟨N,1,Y⟩ g).setCell ⟨N,2,Y⟩ f).setCell ⟨N,3,Y⟩ e) b z d n I:=
 (((h.other (p:=⟨N,0,Y⟩) a c i).other (p:=⟨N,1,Y⟩) a c g).other (p:=⟨N,2,Y⟩) a c f).other (p:=⟨N,3,Y⟩) a c e
def Ac.zM(h:Ac M v w){N:Nat}(b:N∈M\/v.heap.size<=N)(f e d c:ks):Ac M v ((((w.setCell ⟨N,0,Y⟩ f).setCell ⟨N,1,Y⟩ e).setCell ⟨N,2,Y⟩ d).setCell ⟨N,3,Y⟩ c):=
 (((h.setCell (p:=⟨N,0,Y⟩) b f).setCell (p:=⟨N,1,Y⟩) b e).setCell (p:=⟨N,2,Y⟩) b d).setCell (p:=⟨N,3,Y⟩) b c
structure Iv(w:kq)(base:Nat)(hv bv:ks)(zD:kJ AO)(ls:kJ OR):Prop where
 head:kw w base 164 2 hv (Z zD) (zD.flatMap Ap)
 body:CF w base bv ls
def Iv.kept{M:kJ Nat}{w w':kq}{a:Nat}{d e:ks}{c:kJ AO}{f:kJ OR}(h:Iv w a d e c f)(k:Ac M w w')(b:∀i,i∈M->i<a:=by simp):Iv w' a d e c f:=⟨Ad h.head k b,h.body.kept k b⟩
def Iv.base{w:kq}{c base':Nat}{b e:ks}{a:kJ AO}{f:kJ OR}(h:Iv w c b e a f)(d:base'<=c):Iv w base' b e a f:=⟨Al h.head d,h.body.base d⟩
def XL(b:Nat)(mv:ks)(ms:kJ A0)(br:Int)(w:kq)(e:Ending)(w':kq):Except Int (PC×Nat)->Prop
 | .ok (c,nx)=>∃ad cp ad2 cp2 zE,e=j3 (.tuple #[.agg (j1 (A4 c.hp c.hn (U ad (Z c.zD) cp) (U ad2 (Z c.body) cp2))),k0 hG])/\zE.map kE=c.body/\Iv w' (w.heap.size+1) (U ad (Z c.zD) cp) (U ad2 (Z c.body) cp2) c.zD zE/\Ch w' b mv ms nx br/\Ac [b] w w'
 | .error p=>∃nx hp hn ad n cp ad2 n2 cp2,e=j3 (.tuple #[.agg (j1 (A4 hp hn (U ad n cp) (U ad2 n2 cp2))),k0 K])/\Ch w' b mv ms nx p/\Ac [b] w w'
theorem TP(b:Nat)(F:ks)(c:kJ A0)(H:Nat)(L:Int)(w:kq)(h:Ch w b F c H L)(ok:UV c)(H6:∀i,(Au c i).place<=1000000):
  Calls prog 62 #[.pointer (V ⟨b,0,Y⟩)] w λe I=>XL b F c L w e I (Cs c H):=by
 have HO:=Ab ok;have N2:=Ab H6;clear H6;have Op:=h.zK.lt;have K5:∀k,F.ownBlock=V k->k<w.heap.size:=λk hk=>(h.row.lt k hk).2
 have h1:=Ab (h.zJ ((kL [] w).alloc (jj (j1 (A4 0 ⟨#[]⟩ (U Y 0 0) (U Y 0 0))) 120)));have hN:=Ab (kN w (A4 0 ⟨#[]⟩ (U Y 0 0) (U Y 0 0)) 120);have FB:=Ab ((kL [b] w).alloc (jj (j1 (A4 0 ⟨#[]⟩ (U Y 0 0) (U Y 0 0))) 120));have IJ:(w.alloc (jj (j1 (A4 0 ⟨#[]⟩ (U Y 0 0) (U Y 0 0))) 120)).heap.size=w.heap.size+1:=by simp
 clear h ok;go_enter func62,ntmps62;go_wp2_with fail
 change Calls _ _ _ (w.alloc (jj (j1 (A4 0 ⟨#[]⟩ (U Y 0 0) (U Y 0 0))) 120)) _;generalize w.alloc (jj (j1 (A4 0 ⟨#[]⟩ (U Y 0 0) (U Y 0 0))) 120)=w1 at h1 hN FB IJ⊢;obtain⟨N,KS⟩:=kK w.heap.size;rw[KS]at hN Op IJ K5⊢;have R:kt (∀k,N<=k->F.ownBlock≠V k):=λk hk e=>by have:=K5 k e;omega
 clear K5;have Q:=Ab KS;clear KS;refine(Ns b F c H L _ h1 HO).mono ?_;intro e D S;clear h1;cases ht:ET c H with
 |error q=>
  rw[ht]at S;obtain⟨n9,ap,an,d,NE,f,rfl,h2,k2⟩:=S;have HF:kt (Cs c H=.error q):=by show _=_;unfold Cs;rw[ht]
  clear ht;have v:=hN.kept k2 (by simp;omega);have HQ:=Ab (FB.trans k2);have c0:=v.cell 0;have c1:=v.cell 1;have c2:=v.cell 2;have c3:=v.cell 3;have nf:=v.frozen;have d0:=λo=>(v.alloc o).cell 0
  have d1:=λo=>(v.alloc o).cell 1
  have d2:=λo=>(v.alloc o).cell 2
  have d3:=λo=>(v.alloc o).cell 3
  have df:=λo=>(v.alloc o).frozen
  simp[A4]at c0 c1 c2 c3 d0 d1 d2 d3;have RI:=v.lt;have q1:¬N=D.heap.size:=by omega
  have q2:¬D.heap.size=N:=by omega
  have z:=Ab h2;have G:=Ab v;clear h2 v k2 hN FB;simp only[AL];go_wp2;rw[HF.out];have AB:=(G.zM rfl (X J 0) (O ⟨#[]⟩) (U Y 0 0) (U Y 0 0)).alloc (jj #[X J ap,O an,U d NE f] 116);refine fL (An (P:=prog) (fn:=Tryz.f62) (p:=2) (u:=3) rfl rfl AB underlying120 rfl (by kernel_rfl)) rfl ?_;refine⟨n9,0,kB,Y,0,0,Y,0,0,rfl,?_,?_⟩
  .exact(z.zM (by omega) (R N (by omega)) _ _ _ _).zJ ((kL [] _).alloc _)
  .have:=Aa Q;exact(HQ.zM (by right;omega) _ _ _ _).alloc _
 |ok r=>
  obtain⟨⟨p,s,a⟩,n⟩:=r;rw[ht]at S;obtain⟨tv,RE,rfl,NX,JJ,h2,k2⟩:=S;obtain⟨d,f,rfl⟩:=Aj JJ;have CC:kt (Cs c H=if BE (Au c n) XD then .error (((Au c n).place:Int)+1)else if BE (Au c n) dl then(match Ft c (n+1) [] with| .error q=> .error q| .ok (j,W)=>MQ c W ⟨p,s,a,j⟩)else MQ c n ⟨p,s,a,[]⟩):=by
   show _=_;unfold Cs;rw[ht]
  clear ht;have HX:kw D (N+1) 164 2 (U d (Z a) f) (Z a) (a.flatMap Ap):=Al JJ (by omega);have MY:kt (∀k,(U d (Z a) f).ownBlock=V k->k<D.heap.size):=λk e=>(HX.lt k e).2
  have v:=hN.kept k2 (by simp;omega);have HQ:=FB.trans k2;have OH:=v.lt;have NM:N+1<=D.heap.size:=by have:=k2.size;omega
  clear JJ NX k2 hN FB IJ;have E0:=Ab (h2.zJ (((kL [] D).alloc (jj (j1 (AL ⟨p,s,U d (Z a) f⟩)) 116)).alloc (jj (j1 (A4 p s (U d (Z a) f) (U Y 0 0))) 120)));have H1:=Ab ((v.alloc (jj (j1 (AL ⟨p,s,U d (Z a) f⟩)) 116)).alloc (jj (j1 (A4 p s (U d (Z a) f) (U Y 0 0))) 120));have H5:=Ab ((HQ.alloc (jj (j1 (AL ⟨p,s,U d (Z a) f⟩)) 116)).alloc (jj (j1 (A4 p s (U d (Z a) f) (U Y 0 0))) 120));have HL:kt (AF ((D.alloc (jj (j1 (AL ⟨p,s,U d (Z a) f⟩)) 116)).alloc (jj (j1 (A4 p s (U d (Z a) f) (U Y 0 0))) 120)) (D.heap.size+1) (A4 p s (U d (Z a) f) (U Y 0 0)) 120):=by
   have hh:=kN (D.alloc (jj (j1 (AL ⟨p,s,U d (Z a) f⟩)) 116)) (A4 p s (U d (Z a) f) (U Y 0 0)) 120;rw[show(D.alloc (jj (j1 (AL ⟨p,s,U d (Z a) f⟩)) 116)).heap.size=D.heap.size+1 from by simp]at hh
   exact hh
  have H8:=Ab (fw (fw HX (jj (j1 (AL ⟨p,s,U d (Z a) f⟩)) 116)) (jj (j1 (A4 p s (U d (Z a) f) (U Y 0 0))) 120));clear h2 v HQ HX;simp only[AL];go_wp2_with fail
  change Calls _ _ _ ((D.alloc (jj (j1 (AL ⟨p,s,U d (Z a) f⟩)) 116)).alloc (jj (j1 (A4 p s (U d (Z a) f) (U Y 0 0))) 120)) _;generalize(D.alloc (jj (j1 (AL ⟨p,s,U d (Z a) f⟩)) 116)).alloc (jj (j1 (A4 p s (U d (Z a) f) (U Y 0 0))) 120)=w3 at E0 H1 H5 HL H8⊢;obtain⟨C,LE⟩:=kK (D.heap.size+1);have RO:N+1<C:=by omega
  have NS:kt ((U d (Z a) f).ownBlock≠V C):=λe=>by have:=Aa MY C e;omega
  clear MY;rw[LE]at HL⊢;clear LE NM OH;refine(R3 b F c n L XD _ E0 (Au c n) (Be E0.lt)).mono ?_;rintro e w4 ⟨rfl,k4⟩;have BA:=Ab (E0.zJ k4);have HH:=Ab (H1.kept k4);have LB:=Ab (HL.kept k4);have HA:=Ab (H5.trans (k4.mono (by simp)));have H4:=Ab (Ad H8 k4);clear E0 H1 HL H5 H8 k4;cases hc:BE (Au c n) XD with
  |true=>
   (have HF:kt (Cs c H=.error (((Au c n).place:Int)+1)):=by show _=_;rw[Aa CC,hc];rfl);clear CC hc LB H4;(go_wp2_with fail);refine(JY b F c n L _ BA (Au c n) (Be BA.lt)).mono ?_;rintro e w5 ⟨rfl,M⟩;have M1:=Ab (BA.zJ M);have Ax:=Ab (HH.kept M);have T:=Ab (HA.trans (M.mono (by simp)));have H6:(Au c n).place<=1000000:=N2 n;clear BA HH HA M;(go_wp2_with fail);refine(Gb b F c n L (((Au c n).place:Int)+1) _ M1).mono ?_;rintro e w6 ⟨rfl,h6,B⟩;have t:=Ax.kept B (by simp;omega);have CW:=Ab (T.trans B);have c0:=t.cell 0;have c1:=t.cell 1;have c2:=t.cell 2;have c3:=t.cell 3;have nf:=t.frozen;simp[A4]at c0 c1 c2 c3;have G:=Ab t;have z:=Ab h6;clear t h6 B M1 Ax T;go_wp2;rw[HF.out];have AB:=G.zM rfl (X J 0) (O ⟨#[]⟩) (U Y 0 0) (U Y 0 0);refine fL (An (P:=prog) (fn:=Tryz.f62) (p:=2) (u:=3) rfl rfl AB underlying120 rfl (by kernel_rfl)) rfl ?_;refine⟨n,0,kB,Y,0,0,Y,0,0,rfl,?_,?_⟩
   .exact z.zM (by omega) (R N (by omega)) _ _ _ _
   .have:=Aa Q;exact CW.zM (by right;omega) _ _ _ _
  |false=>
   have HE:=Ab hc;clear hc;(go_wp2_with fail);refine(Gv b F c n L dl _ BA (Au c n) (Be BA.lt) (HO.seen BA.lt dl)).mono ?_;rintro e w5 ⟨rfl,h5,M⟩;have Ax:=Ab (HH.kept M (by simp;omega));have B9:=Ab (LB.kept M (by simp;omega));have T:=Ab (HA.trans M);have EY:=Ab (Ad H4 M (by simp;omega));clear BA HH LB HA H4 M;cases hd:BE (Au c n) dl with
   |false=>
    rw[hd]at h5;simp only[fq,if_false]at h5;(have HD:kt (Cs c H=MQ c n ⟨p,s,a,[]⟩):=by show _=_;rw[Aa CC,Aa HE,hd];rfl);have z:=Ab h5;have G:=Ax;have A:=B9;have HK:=T;have HP:kt (Iv w5 (N+1) (U d (Z a) f) (U Y 0 0) a []):=⟨EY,CF.nil _ _⟩;clear hd h5 CC HE Ax B9 T EY;have FC:=z.lt;have KK:=Ab (MA b F c n L Xk _ (z.zJ (kL [] w5).drew) (Au c n) (Be FC) (HO.seen FC Xk));have e0:=A.cell 0;have e1:=A.cell 1;have e2:=A.cell 2;have e3:=A.cell 3;simp[A4]at e0 e1 e2 e3;(have HW:kt (∀m,Ac [b] w5.drew m->AF m N (A4 0 ⟨#[]⟩ (U Y 0 0) (U Y 0 0)) 120/\AF m C (A4 p s (U d (Z a) f) (U Y 0 0)) 120):=λm k=>⟨G.drew.kept k (by simp;omega),A.drew.kept k (by simp;omega)⟩);(have q1:¬C=N:=by omega);(have q2:¬N=C:=by omega);clear z G A;go_wp2_with fail
    go_region_held3 (λI=>ku I ⟨C,0,Y⟩=V (X J p)/\ku I ⟨C,1,Y⟩=V (O s)/\ku I ⟨C,2,Y⟩=V (U d (Z a) f)/\ku I ⟨C,3,Y⟩=V (U Y 0 0)) (go_keep) ((go_at_call 105;refine KK.mono ?_;rintro e m ⟨rfl,l,E⟩;have g:=Aa HW m E;have f0:=g.2.cell 0;have f1:=g.2.cell 1;have f2:=g.2.cell 2;have f3:=g.2.cell 3;have p0:=g.1.cell 0;have p1:=g.1.cell 1;have p2:=g.1.cell 2;have p3:=g.1.cell 3;have pf:=g.1.frozen;simp[A4]at f0 f1 f2 f3 p0 p1 p2 p3;have H2:=Ab (And.intro l (And.intro E g));clear l E g))
    rename_i HY;clear HY;go_wp2;obtain⟨l,E,g,_⟩:=H2;have AB:=g.zM rfl (X J p) (O s) (U d (Z a) f) (U Y 0 0);have Go:Ac [b] w m:=HK.drew.trans E;have LC:Iv m (N+1) (U d (Z a) f) (U Y 0 0) a []:=(HP.kept (kL [] w5).drew).kept E (by simp;omega);refine fL (An (P:=prog) (fn:=Tryz.f62) (p:=2) (u:=3) rfl rfl AB underlying120 rfl (by kernel_rfl)) rfl ?_;rw[Aa HD];cases hcl:BE (Au c n) Xk with
    |true=>
     rw[hcl]at l;simp only[if_true]at l;unfold MQ;rw[hcl];simp only[if_true];refine⟨d,f,Y,0,[],rfl,rfl,?_,?_,?_⟩
     .rw[Aa Q];exact LC.kept ((kL [N] m).zM (by simp) _ _ _ _)
     .exact l.zM (by omega) (R N (by omega)) _ _ _ _
     .have:=Aa Q;exact Go.zM (by right;omega) _ _ _ _
    |false=>
     rw[hcl]at l;simp only[fq,if_false]at l;unfold MQ;rw[hcl];simp only[fq,if_false];refine⟨n,p,s,d,Z a,f,Y,_,0,rfl,?_,?_⟩
     .exact l.zM (by omega) (R N (by omega)) _ _ _ _
     .have:=Aa Q;exact Go.zM (by right;omega) _ _ _ _
   |true=>
    rw[hd]at h5;simp only[if_true]at h5;have HJ:kt (Cs c H=(match Ft c (n+1) [] with| .error q=> .error q| .ok (j,W)=>MQ c W ⟨p,s,a,j⟩)):=by show _=_;rw[Aa CC,Aa HE,hd];rfl
    have Nx:=Ab h5;clear hd h5 CC HE;have NV:=B9.lt;(go_wp2_with fail);refine(Yc b F c (n+1) L _ Nx HO).mono ?_;intro e w6 S;clear Nx;cases hb:Ft c (n+1) [] with
    |error q=>
     rw[hb]at S;obtain⟨n9,rfl,h6,B⟩:=S;(have HF:kt (Cs c H=.error q):=by show _=_;rw[Aa HJ,hb]);have t:=Ax.kept B (by simp;omega);have Bx:=B9.kept B (by simp;omega);have CW:=Ab (T.trans B);have c0:=t.cell 0;have c1:=t.cell 1;have c2:=t.cell 2;have c3:=t.cell 3;have nf:=t.frozen;have d3:=Bx.cell 3;have df:=Bx.frozen;simp[A4]at c0 c1 c2 c3 d3;(have q1:¬C=N:=by omega);(have q2:¬N=C:=by omega);have G:=Ab t;have z:=Ab h6;clear t Bx h6 B hb HJ Ax B9 T EY;go_wp2;rw[HF.out];have AB:=(G.zB ⟨C,3,Y⟩ (by simp;omega) (U Y 0 0)).zM rfl (X J 0) (O ⟨#[]⟩) (U Y 0 0) (U Y 0 0);refine fL (An (P:=prog) (fn:=Tryz.f62) (p:=2) (u:=3) rfl rfl AB underlying120 rfl (by kernel_rfl)) rfl ?_;refine⟨n9,0,kB,Y,0,0,Y,0,0,rfl,?_,?_⟩
     .exact(z.other (p:=⟨C,3,Y⟩) (by simp;omega) (R C (by omega)) _).zM (by omega) (R N (by omega)) _ _ _ _
     .have:=Aa Q;exact(CW.setCell (p:=⟨C,3,Y⟩) (by right;simp;omega) _).zM (by right;omega) _ _ _ _
    |ok r=>
     obtain⟨j,W⟩:=r;rw[hb]at S;obtain⟨y,x,HG,rfl,MN,LL,h6,B⟩:=S;(have HD:kt (Cs c H=MQ c W ⟨p,s,a,j⟩):=by show _=_;rw[Aa HJ,hb]);have t:=Ax.kept B (by simp;omega);have Bx:=B9.kept B (by simp;omega);have CW:=T.trans B;have Nq:=Ad EY B (by simp;omega);have d3:=Bx.cell 3;have df:=Bx.frozen;simp[A4]at d3;have M0:=Ab t;have LD:=Ab Bx;have M6:=Ab CW;have MB:=Ab Nq;have K6:=Ab (And.intro MN LL);have L0:=Ab h6;clear t Bx CW Nq MN LL h6 B hb HJ Ax B9 T EY;(go_wp2_with fail);have QQ:C<w5.heap.size:=NV;have z:=Ab (L0.other (p:=⟨C,3,Y⟩) (by simp;omega) (R C (by omega)) (U y (Z j) x));have G:=Ab (M0.zB ⟨C,3,Y⟩ (by simp;omega) (U y (Z j) x));have A:kt (AF (w6.setCell ⟨C,3,Y⟩ (U y (Z j) x)) C (A4 p s (U d (Z a) f) (U y (Z j) x)) 120):=LD.set 3 _;have HK:kt (Ac [b] w (w6.setCell ⟨C,3,Y⟩ (U y (Z j) x))):=by
      have:=Aa Q;exact M6.setCell (p:=⟨C,3,Y⟩) (by right;simp;omega) _
     have HP:kt (Iv (w6.setCell ⟨C,3,Y⟩ (U y (Z j) x)) (N+1) (U d (Z a) f) (U y (Z j) x) a HG):=by
      have kC:Ac [C] w6 (w6.setCell ⟨C,3,Y⟩ (U y (Z j) x)):=(kL [C] w6).setCell (by simp) _;refine⟨?_,(K6.2.kept kC (by simp;omega)).base (by omega)⟩;exact Af MB (p:=⟨C,3,Y⟩) NS _
     have HM:kt (HG.map kE=j):=K6.1;clear L0 M0 LD M6 MB K6 d3 df;generalize w6.setCell ⟨C,3,Y⟩ (U y (Z j) x)=w7 at z G A HK HP⊢;have FC:=z.lt;have KK:=Ab (MA b F c W L Xk _ (z.zJ (kL [] w7).drew) (Au c W) (Be FC) (HO.seen FC Xk));have e0:=A.cell 0;have e1:=A.cell 1;have e2:=A.cell 2;have e3:=A.cell 3;simp[A4]at e0 e1 e2 e3;(have HW:kt (∀m,Ac [b] w7.drew m->AF m N (A4 0 ⟨#[]⟩ (U Y 0 0) (U Y 0 0)) 120/\AF m C (A4 p s (U d (Z a) f) (U y (Z j) x)) 120):=λm k=>⟨G.drew.kept k (by simp;omega),A.drew.kept k (by simp;omega)⟩);(have q1:¬C=N:=by omega);(have q2:¬N=C:=by omega);clear z G A;go_wp2_with fail
     go_region_held3 (λI=>ku I ⟨C,0,Y⟩=V (X J p)/\ku I ⟨C,1,Y⟩=V (O s)/\ku I ⟨C,2,Y⟩=V (U d (Z a) f)/\ku I ⟨C,3,Y⟩=V (U y (Z j) x)) (go_keep) ((go_at_call 105;refine KK.mono ?_;rintro e m ⟨rfl,l,E⟩;have g:=Aa HW m E;have f0:=g.2.cell 0;have f1:=g.2.cell 1;have f2:=g.2.cell 2;have f3:=g.2.cell 3;have p0:=g.1.cell 0;have p1:=g.1.cell 1;have p2:=g.1.cell 2;have p3:=g.1.cell 3;have pf:=g.1.frozen;simp[A4]at f0 f1 f2 f3 p0 p1 p2 p3;have H2:=Ab (And.intro l (And.intro E g));clear l E g))
     rename_i HY;clear HY;go_wp2;obtain⟨l,E,g,_⟩:=H2;have AB:=g.zM rfl (X J p) (O s) (U d (Z a) f) (U y (Z j) x);have Go:Ac [b] w m:=HK.drew.trans E;have LC:Iv m (N+1) (U d (Z a) f) (U y (Z j) x) a HG:=(HP.kept (kL [] w7).drew).kept E (by simp;omega);refine fL (An (P:=prog) (fn:=Tryz.f62) (p:=2) (u:=3) rfl rfl AB underlying120 rfl (by kernel_rfl)) rfl ?_;rw[Aa HD];cases hcl:BE (Au c W) Xk with
     |true=>
      rw[hcl]at l;simp only[if_true]at l;unfold MQ;rw[hcl];simp only[if_true];refine⟨d,f,y,x,HG,rfl,HM,?_,?_,?_⟩
      .rw[Aa Q];exact LC.kept ((kL [N] m).zM (by simp) _ _ _ _)
      .exact l.zM (by omega) (R N (by omega)) _ _ _ _
      .have:=Aa Q;exact Go.zM (by right;omega) _ _ _ _
     |false=>
      rw[hcl]at l;simp only[fq,if_false]at l;unfold MQ;rw[hcl];simp only[fq,if_false];refine⟨W,p,s,d,Z a,f,y,_,x,rfl,?_,?_⟩
      .exact l.zM (by omega) (R N (by omega)) _ _ _ _
      .have:=Aa Q;exact Go.zM (by right;omega) _ _ _ _
def BO(s:zA)(a:Nat):A0:=if Ae s a<s.size then Im (DO s (Ae s a)).1 else Ex s
def At(s:zA)(ms:kJ A0)(nx a:Nat):Prop:=ms.drop nx=CV s a
def QA(s:zA)(a:Nat):CV s (Ae s a)=CV s a:=by
 unfold CV
 congr 2
 by_cases b:Ae s a<s.size
 .rw[F4 (B8 s a) b,F4 rfl b]
 .rw[IG b,IG (by rw[B8];exact b)]
def At.gap{b:kJ A0}(h:At s b n m):At s b n (Ae s m):=by
 unfold At at*;rw[QA];exact h
def At.head{b:kJ A0}(h:At s b n m):Au b n=BO s m:=by
 unfold At at h;have e:b[n]?=(CV s m)[0]?:=by rw[<-h];simp
 unfold Au BO;rw[fG,e];unfold CV Qx;split
 .simp
 .simp
def At.next{b:kJ A0}(h:At s b n m)(c:Ae s m=j)(d:j<s.size):At s b (n+1) (DO s j).2:=by
 unfold At at*;rw[<-List.drop_drop,h];unfold CV;rw[F4 c d];simp
def At.lt{b:kJ A0}(h:At s b n m):n<Z b:=by
 unfold At at h;have:Z (b.drop n)=Z (CV s m):=by rw[h]
 unfold CV at this;simp at this;omega
def IM(h:¬Ae s n<s.size):BO s n=Ex s:=by simp[BO,h]
def GR(c:Ae s n=j)(h:j<s.size)(d:Az s[j]=hG):
  BO s n=⟨if AM Az s j-j<=4 then 2 else 0,j,s.extract j (AM Az s j)⟩/\(DO s j).2=AM Az s j:=by
 have e:=C3 Az s j (by omega);have f:DO s j=(⟨2,j,s.extract j (AM Az s j)⟩,AM Az s j):=by unfold DO;rw[Ep h,d];rfl
 unfold BO;rw[c,fF h,f];refine⟨?_,rfl⟩;simp only[Im,IE,size_extract e,if_true];by_cases b:AM Az s j-j<=4<;>simp[b]
def TI(h:j<s.size)(a:k<=s.size)(b:j<k)(c:UInt8):DV (s.extract j k) 0 c=(s[j]==c):=by
 unfold DV;rw[dif_pos (by rw[size_extract a];omega)];simp[ByteArray.getElem_extract]
def E2(i:Ae s n=j)(h:j<s.size)(k:Az s[j]=K)(b:Aq s[j]=hG):
  BO s n=⟨if 3<AM Aq s j-j\/(s[j]=48/\1<AM Aq s j-j)then 0 else 3,j,s.extract j (AM Aq s j)⟩/\(DO s j).2=AM Aq s j:=by
 have c:=C3 Aq s j (by omega);have f:j<AM Aq s j:=by rw[Ce _ _ _ h b];have:=Cr Aq s (j+1);omega
 have l:DO s j=(⟨3,j,s.extract j (AM Aq s j)⟩,AM Aq s j):=by unfold DO;rw[Ep h,k,b];rfl
 unfold BO;rw[i,fF h,l];refine⟨?_,rfl⟩;have e:IE ⟨3,j,s.extract j (AM Aq s j)⟩= !decide (3<AM Aq s j-j\/(s[j]=48/\1<AM Aq s j-j)):=by
  unfold IE;simp only[size_extract c,TI h c f];rw[fB (by decide),fF trivial,gU];simp only[ie,fU,jg,iK,it,gm,ne_eq];by_cases d:s[j]=48
  .simp only[d,not_true_eq_false,true_and,and_false,or_false];omega
  .simp only[d,not_false_eq_true,false_and,and_true,or_false];omega
 unfold Im;rw[e];by_cases g:3<AM Aq s j-j\/(s[j]=48/\1<AM Aq s j-j)<;>simp[g]
def Jq{a j:Nat}(c:Ae s a=j)(h:j<s.size)(d:s[j]=58)(b:DV s (j+1) 45=hG):
  BO s a=⟨5,j,dl⟩/\(DO s j).2=j+2:=by
 have e:DO s j=(⟨5,j,dl⟩,j+2):=by unfold DO;rw[Ep h,d,b];rfl
 unfold BO;rw[c,fF h,e];exact⟨rfl,rfl⟩
def Gs{a j:Nat}(f:Ae s a=j)(h:j<s.size)(c:Az s[j]=K)(b:Aq s[j]=K)(l:¬(s[j]=58/\DV s (j+1) 45=hG))(d:s[j].toNat<128):
  BO s a=⟨D7 (s[j].toNat:Int),j,⟨#[s[j]]⟩⟩/\(DO s j).2=j+1:=by
 have i:¬(97<=s[j].toNat/\s[j].toNat<=122):=λh=>by rw[(CH _).2 h]at c;cases c
 have g:¬(48<=s[j].toNat/\s[j].toNat<=57):=λh=>by rw[(Ca _).2 h]at b;cases b
 have k:DO s j=(⟨D7 (s[j].toNat:Int),j,⟨#[s[j]]⟩⟩,j+1):=by
  unfold DO;rw[Ep h,c,b,iW s j h d];simp only[fq,if_false];rw[fB l];simp only[Cj,F0 _ d]
 unfold BO;rw[f,fF h,k];refine⟨?_,rfl⟩;unfold Im IE;simp only;rcases Qq i g with e|e|e<;>simp[e]
def GS(f:Ae s n=j)(h:j<s.size)(c:128<=s[j].toNat):(BO s n).kind=0/\(BO s n).place=j:=by
 have g:Az s[j]=K:=by cases b:Az s[j] with|false=>rfl|true=>have:=(CH _).1 b;omega
 have d:Aq s[j]=K:=by cases b:Aq s[j] with|false=>rfl|true=>have:=(Ca _).1 b;omega
 have i:¬(s[j]=58/\DV s (j+1) 45=hG):=λb=>by rw[b.1]at c;simp at c
 have k:=(kj s j h c).1;have e:D7 ((Utf8.decode s j).1:Int)=0:=by unfold D7;rw[fB (by omega),fB (by omega),fB (by omega),fB (by omega)]
 unfold BO DO;rw[f,fF h,Ep h,g,d];simp only[fq,if_false];rw[fB i];simp[Cj,Im,IE,e]
def DK(d:n<=s.size):(BO s n).place=Ae s n:=by
 obtain⟨j,b⟩:=kK (Ae s n);have f:=Bj s n d;by_cases h:j<s.size
 .by_cases e:s[j].toNat<128
  .cases hl:Az s[j] with
   |true=>rw[(GR b h hl).1,b]
   |false=>
    cases hd:Aq s[j] with
    |true=>rw[(E2 b h hl hd).1,b]
    |false=>
     by_cases c:s[j]=58/\DV s (j+1) 45=hG
     .rw[(Jq b h c.1 c.2).1,b]
     .rw[(Gs b h hl hd c e).1,b]
  .rw[(GS b h (by omega)).2,b]
 .rw[IM (by omega)];simp only[Ex];omega
def EH:kJ UInt8:=[46,44,33,61,35,60,40,41]
def RY(h:g∈EH):g.toNat<128/\Az g=K/\Aq g=K/\g≠58/\D7 (g.toNat:Int)=5/\Di g=K:=by
 simp only[EH,fx,gP,or_false]at h;rcases h with rfl|rfl|rfl|rfl|rfl|rfl|rfl|rfl<;>decide
def RA(x c:UInt8):(((⟨#[x]⟩:zA).toList==(⟨#[c]⟩:zA).toList))=(x==c):=by
 have e:∀y:UInt8,(⟨#[y]⟩:zA).toList=[y]:=λy=>by rw[gC]
 rw[e,e];simp
def DR{a:Nat}{c:UInt8}(n:c∈EH):BE (BO s a) ⟨#[c]⟩=DV s (Ae s a) c:=by
 obtain⟨j,d⟩:=kK (Ae s a);obtain⟨t,l,i,k,q,_⟩:=RY n;rw[d];unfold BE;by_cases h:j<s.size
 .have r:DV s j c=(s[j]==c):=by simp[DV,h]
  rw[r];have g:∀x:UInt8,(Az x=hG\/Aq x=hG\/128<=x.toNat)->(x==c)=K:=by
   intro x b;simp only[gm,ne_eq];rintro rfl;rcases b with b|b|b
   .rw[l]at b;cases b
   .rw[i]at b;cases b
   .omega
  by_cases o:s[j].toNat<128
  .cases hl:Az s[j] with
   |true=>
    rw[(GR d h hl).1,g _ (kn hl)];by_cases f:AM Az s j-j<=4<;>simp[f]
   |false=>
    cases hd:Aq s[j] with
    |true=>
     rw[(E2 d h hl hd).1,g _ (kp (kn hd))];by_cases f:3<AM Aq s j-j\/(s[j]=48/\1<AM Aq s j-j)<;>simp[f]
    |false=>
     by_cases e:s[j]=58/\DV s (j+1) 45=hG
     .rw[(Jq d h e.1 e.2).1];(have m:(s[j]==c)=K:=by simp[e.1,Ne.symm k]);have p:(dl.toList==(⟨#[c]⟩:zA).toList)=K:=by
       rw[show dl.toList=[58,45] from by rw[gC];rfl,show(⟨#[c]⟩:zA).toList=[c] from by rw[gC]]
       simp
      rw[m,p,jc]
     .rw[(Gs d h hl hd e o).1];simp only[RA];cases he:(s[j]==c)with
      |false=>simp
      |true=>
       (have:s[j]=c:=by simpa using he);rw[this,q];rfl
  .have:=GS d h (by omega);rw[this.1,g _ (kp (kp (by omega)))];rfl
 .rw[IM (by omega)];simp[Ex,DV,h]
def At.take{e:kJ A0}{g a:Nat}{c:UInt8}(h:At s e g a)(n:c∈EH)(f:DV s (Ae s a) c=hG):At s e (g+1) (Ae s a+1)/\Ae s a+1<=s.size:=by
 obtain⟨m,k,i,j,o,_⟩:=RY n;have d:=Fm f;have b:s[Ae s a]=c:=by simpa[DV,d] using f
 have:=h.next rfl d;rw[(Gs (a:=a) rfl d (by rw[b];exact k) (by rw[b];exact i) (by rw[b];exact λl=>j l.1) (by rw[b];exact m)).2]at this;exact⟨this,by omega⟩
def Ot{α β:Type}(R:α->β->Prop)(s:zA)(ms:kJ A0):Except Int (α×Nat)->β×Nat×Bool->Prop
 | .ok (x,n),(y,a,bd)=>bd=K/\R x y/\At s ms n a/\a<=s.size
 | .error p,(_,a,bd)=>bd=hG/\p=(a:Int)
def ct(t:AG):AO:=⟨(t.v.toNat:Int),Dx t.s⟩
def IQ(h:j<s.size)(a:k<=s.size)(b:j<k):∃c:0<(s.extract j k).size,(s.extract j k)[0]=s[j]:=
 ⟨by rw[size_extract a];omega,by simp[ByteArray.getElem_extract]⟩
def Sm(c:UInt8)(h:c.toNat<128):C6 ⟨#[c]⟩ 0 0=(c.toNat:Int):=by
 have a:(0:Nat)<(⟨#[c]⟩:zA).size:=Nat.zero_lt_one;rw[KE 0 a];have b:=iW ⟨#[c]⟩ 0 a h;rw[b];unfold C6;rw[dif_neg (λd=>absurd d.1 (show¬(0+1<1)from by decide))];rfl
theorem SY{u:kJ A0}(h:At s u n m)(E:m<=s.size):Ot (λt F=>t=ct F) s u (Fs (Au u n) n) (AK s m K):=by
 obtain⟨j,c⟩:=kK (Ae s m);have P:=Bj s m E;rw[h.head];unfold AK Fs;simp only[fq,if_false];by_cases b:j<s.size
 .rw[dif_pos (by rw[c];exact b)];simp only[c];have p:=h.next c b;by_cases y:s[j].toNat<128
  .cases f:Az s[j] with
   |true=>
    have L:=(CH _).1 f;have g:Dk s[j]=K:=by cases d:Dk s[j] with|false=>rfl|true=>have:=(EV _).1 d;omega
    have e:Aq s[j]=K:=by cases d:Aq s[j] with|false=>rfl|true=>have:=(Ca _).1 d;omega
    obtain⟨l,k⟩:=GR c b f;rw[k]at p;(have D:Ae s j=j:=by rw[<-c];exact B8 s m);(have v:j<AM Az s j:=by rw[Ce _ _ _ b f];have:=Cr Az s (j+1);omega);have o:=C3 Az s j (by omega);rw[l,g,e];simp only[fq,if_false,gX,if_true];by_cases i:AM Az s j-j<=4
    .rw[JX D rfl (by omega)];simp only[i,if_true];obtain⟨A,q⟩:=IQ b o v;refine⟨rfl,?_,p,o⟩;unfold ct;simp only;rw[<-Wv A (by rw[q];omega)];rfl
    .rw[DT D rfl (by omega)];simp only[i,if_false];exact⟨rfl,rfl⟩
   |false=>
    cases e:Aq s[j] with
    |true=>
     have N:=(Ca _).1 e;have g:Dk s[j]=K:=by cases d:Dk s[j] with|false=>rfl|true=>have:=(EV _).1 d;omega
     obtain⟨l,k⟩:=E2 c b f e;rw[k]at p;have o:=C3 Aq s j (by omega);rw[l,g];simp only[fq,if_false,i6];by_cases i:3<AM Aq s j-j\/(s[j]=48/\1<AM Aq s j-j)
     .rw[fF i,fF i];exact⟨rfl,rfl⟩
     .rw[fB i,fB i];(have v:j<AM Aq s j:=by rw[Ce _ _ _ b e];have:=Cr Aq s (j+1);omega);obtain⟨A,q⟩:=IQ b o v;have C:=size_extract (s:=s) (j:=j) o;(have M:s[j].toNat=48->s[j]=48:=λh=>il.1 h);refine⟨rfl,?_,p,o⟩;unfold ct;simp only;rw[<-Yt A (by rw[q];omega) (by rw[q];omega) (by rw[C];omega) (λh=>by rw[q]at h;have H:=M h;have B:¬1<AM Aq s j-j:=λB=>i (kp ⟨H,B⟩);rw[C];omega)];rfl
    |false=>
     cases g:Dk s[j] with
     |true=>
      have w:=(EV _).1 g;(have r:¬(s[j]=58/\DV s (j+1) 45=hG):=λd=>by rw[d.1]at w;simp at w);obtain⟨l,k⟩:=Gs c b f e r y;rw[k]at p;(have I:D7 (s[j].toNat:Int)=4:=by unfold D7;rw[fB (by omega),fB (by omega),fF (by omega)]);rw[l,I];simp only[if_true];refine⟨rfl,?_,p,by omega⟩;rw[Sm _ y];rfl
     |false=>
      have z:A3 s j K=(kB,j,hG):=DT (by rw[<-c];exact B8 s m) (ER _ _ _ b f) (kn rfl);(have w:¬(65<=s[j].toNat/\s[j].toNat<=90):=λh=>by rw[(EV _).2 h]at g;cases g);(have L:¬(97<=s[j].toNat/\s[j].toNat<=122):=λh=>by rw[(CH _).2 h]at f;cases f);(have N:¬(48<=s[j].toNat/\s[j].toNat<=57):=λh=>by rw[(Ca _).2 h]at e;cases e);simp only[fq,if_false,gX,if_true,z];(have G:(BO s m).place=j:=by rw[DK E,c]);have x:(BO s m).kind≠2/\(BO s m).kind≠3/\(BO s m).kind≠4:=by
       by_cases r:s[j]=58/\DV s (j+1) 45=hG
       .rw[(Jq c b r.1 r.2).1];simp
       .rw[(Gs c b f e r y).1];unfold D7;rw[fB (by omega),fB (by omega),fB (by omega)];split<;>simp
      simp only[iF,x.1,x.2.1,x.2.2,kl,ie,or_self,if_false,G];exact⟨rfl,rfl⟩
  .have f:Az s[j]=K:=by cases d:Az s[j] with|false=>rfl|true=>have:=(CH _).1 d;omega
   have e:Aq s[j]=K:=by cases d:Aq s[j] with|false=>rfl|true=>have:=(Ca _).1 d;omega
   have g:Dk s[j]=K:=by cases d:Dk s[j] with|false=>rfl|true=>have:=(EV _).1 d;omega
   have z:A3 s j K=(kB,j,hG):=DT (by rw[<-c];exact B8 s m) (ER _ _ _ b f) (kn rfl);obtain⟨l,k⟩:=GS c b (by omega);rw[g,e];simp only[fq,if_false,gX,if_true,z,l,k];exact⟨rfl,rfl⟩
 .rw[dif_neg (by rw[c];exact b),IM (by omega)];simp only[Ex];refine⟨rfl,?_⟩;rw[c];show(s.size:Int)=(j:Int);omega
def CS(t:AG):Prop:=(t.v=0/\A1 t.s)\/(65<=t.v.toNat/\t.v.toNat<=90/\t.s=kB)
def A1.size{s:zA}(h:A1 s):s.size≠0:=by
 rw[BY];rcases h with⟨c,r,h,_⟩|h
 .rw[h];simp
 .rcases EQ h with⟨c,e,_⟩|⟨c,d,e,_⟩|⟨c,d,f,e,_⟩<;>rw[e]<;>simp
def CS.zN{t:AG}(h:CS t):By t:=by
 rcases h with⟨a,b⟩|h
 .exact kn ⟨a,b.size⟩
 .exact kp ⟨h.1,h.2.1⟩
def LN(h:j<s.size)(a:k<=s.size)(f:j<k):∃r,(s.extract j k).toList=s[j]::r/\Z r+1=k-j:=by
 obtain⟨d,e⟩:=IQ h a f;obtain⟨r,c,b⟩:=Hq _ d;refine⟨r,by rw[c,e],?_⟩;rw[c,IX _ _ _ a]at b;simpa using b
def Oj{p:UInt8->Bool}(h:AM p s i≠i):∃a:i<s.size,p s[i]=hG:=by
 by_cases a:i<s.size
 .refine⟨a,?_⟩;cases hp:p s[i] with
  |true=>rfl
  |false=>exact absurd (ER p s i a hp) h
 .exact absurd (FY p s i a) h
def NR{p:UInt8->Bool}(h:AM p s i≠i):AM p s i<=s.size:=by
 obtain⟨a,_⟩:=Oj h;exact C3 p s i (by omega)
def NJ(h:(A3 s n K).2.2=K):A1 (A3 s n K).1:=by
 unfold A3 at h⊢;rw[fB (by simp)]at h⊢;by_cases a:AM Az s (Ae s n)=Ae s n\/4<AM Az s (Ae s n)-Ae s n
 .rw[fF a]at h;cases h
 .rw[fB a];have b:AM Az s (Ae s n)≠Ae s n:=λe=>a (kn e)
  obtain⟨d,c⟩:=Oj b;have f:=Cr Az s (Ae s n);obtain⟨r,e,_⟩:=LN d (NR b) (by omega:Ae s n<AM Az s (Ae s n));exact kn ⟨_,r,e,(CH _).1 c⟩
def Sx(i:j<s.size)(g:Aq s[j]=hG)(h:¬(3<AM Aq s j-j\/(s[j]=48/\1<AM Aq s j-j))):A1 (s.extract j (AM Aq s j)):=by
 have l:=Cr Aq s (j+1);rw[<-Ce Aq s j i g]at l;have n:=C3 Aq s j (by omega);obtain⟨r,e,d⟩:=LN i n (by omega:j<AM Aq s j);have f:=(Ca _).1 g;have p:¬3<AM Aq s j-j:=λx=>h (kn x)
 have k:1<AM Aq s j-j->49<=s[j].toNat:=by
  intro o;have m:s[j]≠48:=λx=>h (kp ⟨x,o⟩)
  have:s[j].toNat≠48:=λx=>m (il.1 (by rw[x];rfl))
  omega
 refine kp ?_;rw[e]
 match r,d with
 |[],_=>simp only[aw];exact ix f
 |[a],d=>simp only[aw];exact ix ⟨k (by simp at d;omega),f.2⟩
 |[a,b],d=>simp only[aw];exact ix ⟨k (by simp at d;omega),f.2⟩
 |a::b::c::r,d=>simp at d;omega
def Jg(h:(AK s n K).2.2=K):CS (AK s n K).1:=by
 unfold AK at h⊢;rw[fB (by simp)]at h⊢;by_cases a:Ae s n<s.size
 .rw[dif_pos a]at h⊢;cases hu:Dk s[Ae s n] with
  |true=>
   rw[fF rfl];exact kp ⟨((EV _).1 hu).1,((EV _).1 hu).2,rfl⟩
  |false=>
   rw[hu,fB (by simp)]at h;rw[fB (by simp)];cases hd:Aq s[Ae s n] with
   |false=>
    rw[hd,gX,fF rfl]at h;rw[gX,fF rfl];exact kn ⟨rfl,NJ h⟩
   |true=>
    rw[hd,i6,fB (by simp)]at h;rw[i6,fB (by simp)];by_cases b:3<AM Aq s (Ae s n)-Ae s n\/(s[Ae s n]=48/\1<AM Aq s (Ae s n)-Ae s n)
    .rw[fF b]at h;cases h
    .rw[fB b];exact kn ⟨rfl,Sx a hd b⟩
 .rw[dif_neg a]at h;cases h
def VW{s:zA}{b:Nat}(h:(Cy s b).2.2=K):∀t∈(Cy s b).1,CS t:=by
 fun_induction Cy s b with
 |case1 b hc _ _ ih=>
  intro t a;have c:(AK s b K).2.2=K:=by
   have:=hc.1;rw[fU]at this;simpa using this.1
  rcases fx.1 a with rfl|a
  .exact Jg c
  .exact ih h t a
 |case2 b hc=>
  intro t a;rw[ft]at a;subst a;exact Jg h
def MC(h:(Bm s n B g).2=K):B=K:=by
 unfold Bm at h;cases B with
 |false=>rfl
 |true=>simp at h
structure KR(A:C8):Prop where
 name:A1 A.name
 args:∀t∈A.args,CS t
def Lz(h:(AV s n K).2.2=K):KR (AV s n K).1:=by
 unfold AV at h⊢;simp only at h⊢;have a:=MC h;have b:(Bm s (A3 s (AN s n K) K).2.1 (A3 s (AN s n K) K).2.2 40).2=K:=by
  cases hm:(Bm s (A3 s (AN s n K) K).2.1 (A3 s (AN s n K) K).2.2 40).2 with
  |false=>rfl
  |true=>unfold Eo at a;rw[hm,fF rfl]at a;cases a
 refine⟨NJ (MC b),?_⟩;unfold Eo at a⊢;rw[b,fB (by simp)]at a⊢;exact VW a
def DN(x:BH):Prop:=if(x.kind==97||x.kind==33)=hG then KR x.A else CS x.L/\CS x.R/\(x.kind=61\/x.kind=35\/x.kind=60)
def RP(h:(Dj s n).2.2=K):DN (Dj s n).1:=by
 unfold Dj at h⊢;simp only at h⊢;cases h33:DV s (Ae s n) 33 with
 |true=>
  rw[h33,fF rfl]at h;rw[fF rfl];unfold DN;rw[fF (by rfl)];exact Lz h
 |false=>
  rw[h33,fB (by simp)]at h;rw[fB (by simp)];cases ho:(Ff s (Ae s n)&&Lp s (Ae s n))with
  |true=>
   rw[ho,fF rfl]at h;rw[fF rfl];unfold DN;rw[fF (by rfl)];exact Lz h
  |false=>
   rw[ho,fB (by simp)]at h;rw[fB (by simp)];unfold Hz at h⊢;generalize hg:AN s (AK s (Ae s n) K).2.1 (AK s (Ae s n) K).2.2=a3 at h⊢;cases hc:(!(AK s (Ae s n) K).2.2&&(DV s a3 61||DV s a3 35||DV s a3 60))with
   |false=>rw[hc,fB (by simp)]at h;cases h
   |true=>
    rw[hc,fF rfl]at h;rw[fF rfl];rw[fU]at hc;(have d:(AK s (Ae s n) K).2.2=K:=by simpa using hc.1);have c:Cw s a3=61\/Cw s a3=35\/Cw s a3=60:=by
     have a:=hc.2;unfold Cw;by_cases b:a3<s.size
     .rw[dif_pos b];unfold DV at a;rw[dif_pos b,dif_pos b,dif_pos b]at a;simp only[ie,iF]at a;rcases a with(a|a)|a
      .exact kn a
      .exact kp (kn a)
      .exact kp (kp a)
     .unfold DV at a;rw[dif_neg b,dif_neg b,dif_neg b]at a;simp at a
    unfold DN;(have f:(Cw s a3==97||Cw s a3==33)=K:=by rcases c with e|e|e<;>rw[e]<;>rfl);rw[fB (by rw[f];simp)];exact⟨Jg d,Jg h,c⟩
def Vr{s:zA}{b:Nat}(h:(Da s b).2.2=K):∀x∈(Da s b).1,DN x:=by
 fun_induction Da s b with
 |case1 b hc _ _ ih=>
  intro t a;have c:(Dj s b).2.2=K:=by
   have:=hc.1;rw[fU]at this;simpa using this.1
  rcases fx.1 a with rfl|a
  .exact RP c
  .exact ih h t a
 |case2 b hc=>
  intro t a;rw[ft]at a;subst a;exact RP h
structure Qv(c:Cb):Prop where
 head:KR c.head
 body:∀x∈c.body,DN x
def Lm(h:(DG s n B).2.2=K):B=K/\∀x∈(DG s n B).1,DN x:=by
 unfold DG at h⊢;cases hc:(!B&&DV s (AN s n B) 58)with
 |true=>
  rw[hc,fF rfl]at h;rw[fF rfl];have c:B=K:=by
   rw[fU]at hc;simpa using hc.1
  refine⟨c,?_⟩;cases h45:DV s (BW s n B 58) 45 with
  |true=>
   rw[h45,fF rfl]at h;rw[fF rfl];exact Vr h
  |false=>rw[h45,fB (by simp)]at h;cases h
 |false=>
  rw[hc,fB (by simp)]at h;rw[fB (by simp)];exact⟨h,λx b=>by cases b⟩
def Dd(h:(Ao s n).2.2=K):Qv (Ao s n).1:=by
 unfold Ao at h⊢;simp only at h⊢;have a:=Lm (MC h);exact⟨Lz a.1,a.2⟩
def QK{s:zA}{b:Nat}(h:(Ar s b).2.2=K):∀c∈(Ar s b).1,Qv c:=by
 fun_induction Ar s b with
 |case1 b ha hc ih=>
  intro c a;rcases fx.1 a with rfl|a
  .exact Dd hc.1
  .exact ih h c a
 |case2 b ha hc=>
  intro c a;rw[ft]at a;subst a;exact Dd h
 |case3 b ha=>intro c a;cases a
def Kt{a:kJ AY}(h:(Ar s n).2.2=K)(e:a.map AY.erase=(Ar s n).1):
  ∀c∈a,KR c.head/\∀x∈Ak c,DN x:=by
 intro c d;have b:c.erase∈(Ar s n).1:=by rw[<-e];exact fW d
 have:=QK h _ b;exact⟨this.head,this.body⟩
def Wg{a:kJ AY}(h:(Ar s n).2.2=K)(e:a.map AY.erase=(Ar s n).1):
  ∀c∈a,∀x∈Ak c,(x.kind==97)=hG->∀t∈x.A.args,By t:=by
 intro c f x g b t d;have:=(Kt h e c f).2 x g;unfold DN at this;rw[b,jp,fF rfl]at this;exact(this.args t d).zN
theorem Tryz.info120:(Tryz.prog.info? 120).map (λi=>(i.zero,i.size,i.bytes))=V (V (.agg #[X J 0,O ⟨#[]⟩,U Y 0 0,U Y 0 0]),4,72):=by kernel_rfl
def YU(r:Int):D7 r≠1:=by
 unfold D7;split
 .simp
 .split
  .simp
  .split
   .simp
   .split<;>simp
def Z5(s:zA)(j:Nat)(h:j<s.size):(DO s j).1.kind≠1/\(DO s j).1.place=j/\(DO s j).1.text.size<=s.size+4:=by
 unfold DO;split
 .have:=C3 Az s j (by omega);refine⟨by simp,rfl,?_⟩;simp only[size_extract this];omega
 .split
  .have:=C3 Aq s j (by omega);refine⟨by simp,rfl,?_⟩;simp only[size_extract this];omega
  .split
   .refine⟨by simp,rfl,?_⟩;show 2<=s.size+4;omega
   .refine⟨YU _,rfl,?_⟩;have:=WJ ((Utf8.decode s j).1:Int);simp only[Cj];omega
def Tb(s:zA):∀(n a:Nat),s.size-a<=n->Z (Qx s a)<=s.size-a/\∀m∈Qx s a,m.kind≠1/\m.place<=s.size/\m.text.size<=s.size+4
 |n,a,hn=>by
  by_cases h:Ae s a<s.size
  .have f:=BR s a;have i:=P8 s _ h;obtain⟨d,j,c⟩:=Z5 s _ h;rw[F4 rfl h]
   match n with
   |0=>omega
   |n+1=>
    obtain⟨g,e⟩:=Tb s n (DO s (Ae s a)).2 (by omega);refine⟨by simp only[fD];omega,λm b=>?_⟩;rcases fx.1 b with rfl|b
    .exact⟨d,by omega,c⟩
    .exact e m b
  .rw[IG h];exact⟨by simp,λm b=>by simp at b⟩
def cK(m:A0):(Im m).place=m.place/\(Im m).text=m.text/\(m.kind≠1->(Im m).kind≠1):=by
 unfold Im;split
 .exact⟨rfl,rfl,λh=>h⟩
 .exact⟨rfl,rfl,λ_=>by simp⟩
def Mq(s:zA):Z (Ez s)<=s.size+1/\0<Z (Ez s):=by
 rw[Lv];unfold CV;have:=(Tb s _ 0 (fJ _)).1;simp;omega
def Q9(s:zA):∀m∈Ez s,m.place<=s.size/\m.text.size<=s.size+4:=by
 rw[Lv];unfold CV;intro m a;rcases fA.1 a with a|a
 .obtain⟨b,d,rfl⟩:=fC.1 a;obtain⟨e,c,_⟩:=cK b;obtain⟨_,f,g⟩:=(Tb s _ 0 (fJ _)).2 b d;rw[e,c];exact⟨f,g⟩
 .simp at a;subst a;exact⟨fJ _,fP _⟩
def cW(d:s.size<=300):UV (Ez s):=by
 refine⟨λi h b=>?_,λi h=>?_⟩
 .by_cases c:i+1<Z (Ez s)
  .exact c
  .exfalso
   (have a:(Ez s).getLast?=V (Ex s):=by unfold Ez;simp);have:(Ez s)[i]?=V (Ex s):=by
    rw[List.getLast?_eq_getElem?]at a;rw[show i=Z (Ez s)-1 by omega];exact a
   rw[fI h]at this;simp only[fu]at this;rw[this]at b;cases b
 .have:=(Q9 s _ (fj h)).2;omega
def Wz(a:s.size<=300)(i:Nat):(Au (Ez s) i).place<=1000000:=by
 by_cases h:i<Z (Ez s)
 .rw[<-Be h];have:=(Q9 s _ (fj h)).1;omega
 .unfold Au;rw[fG,List.getElem?_eq_none (by omega)];simp
structure CB where
 hp:Int
 hn:zA
 zD:kJ AO
 hv:ks
 bv:ks
 zE:kJ OR
def CB.pc(c:CB):PC:=⟨c.hp,c.hn,c.zD,c.zE.map kE⟩
def AZ(c:CB):kJ ks:=[X J c.hp,O c.hn,c.hv,c.bv]
structure Ow(w:kq)(base:Nat)(lv:ks)(c:CB):Prop where
 at_:Iv w base c.hv c.bv c.zD c.zE
 z7:BV c.hv lv
 z6:BV c.bv lv
 z9:∀p∈c.zE,BV p.2 lv
def Ow.kept{M:kJ Nat}{w w':kq}{a:Nat}{b:ks}{c:CB}(h:Ow w a b c)(k:Ac M w w')(d:∀i,i∈M->i<a:=by simp):Ow w' a b c:=
 ⟨h.at_.kept k d,h.z7,h.z6,h.z9⟩
def Hy{v a:ks}(h:kw w m T j v n y)(k:Ac a.ownBlock.toList w u)(d:BV v a):kw u m T j v n y:=
 Am h k (λi c b=>d i c (by simpa using b))
def Ow.zY{w f:kq}{i:Nat}{d:ks}{c:CB}{g n j H:Nat}(h:Ow w i d c)(k:Ac d.ownBlock.toList w f)(e:d.ownBlock=V g\/g=H)(b:w.heap.size<=H):Ow f i (U (V ⟨g,0,Y⟩) n j) c:=
 ⟨⟨Hy h.at_.head k h.z7,⟨Hy h.at_.body.row k h.z6,λp a=>⟨Hy (h.at_.body.each p a).1 k (h.z9 p a),(h.at_.body.each p a).2⟩⟩⟩,
  BV.zY h.z7 h.at_.head e b,BV.zY h.z6 h.at_.body.row e b,λp a=>BV.zY (h.z9 p a) (h.at_.body.each p a).1 e b⟩
def Nk{e h:TypeId}{v a:ks}(g:kw u w.heap.size e i v n y)(f:kw w b h j a m x):BV v a:=by
 intro k c d;have:=(g.lt k c).1;have:=(f.lt k d).2;omega
structure FM(w:kq)(base:Nat)(lv:ks)(cs:kJ CB):Prop where
 row:kw w base 120 4 lv (Z cs) (cs.flatMap AZ)
 each:∀c∈cs,Ow w base lv c
def FM.kept{M:kJ Nat}{w w':kq}{a:Nat}{e:ks}{d:kJ CB}(h:FM w a e d)(k:Ac M w w')(b:∀i,i∈M->i<a:=by simp):FM w' a e d:=
 ⟨Ad h.row k b,λc f=>(h.each c f).kept k b⟩
def FM.base{w:kq}{f base':Nat}{d:ks}{b:kJ CB}(h:FM w f d b)(e:base'<=f):FM w base' d b:=
 ⟨Al h.row e,λc a=>⟨(h.each c a).at_.base e,(h.each c a).z7,(h.each c a).z6,(h.each c a).z9⟩⟩
def FM.nil(w:kq)(b:Nat):FM w b (U Y 0 0) []:=⟨fK _ _ _ _,λp a=>by simp at a⟩
def cA(w:kq)(e:Ending)(w':kq):Except Int (kJ PC)->Prop
 | .ok cs=>∃ad cp pcs,e=j3 (.tuple #[U ad (Z cs) cp,X J 0,k0 hG])/\pcs.map CB.pc=cs/\FM w' w.heap.size (U ad (Z cs) cp) pcs/\Ac [] w w'
 | .error p=>e=j3 (.tuple #[U Y 0 0,X J p,k0 K])/\Ac [] w w'
theorem Je(s:zA)(w:kq)(hs:s.size<=300):
  Calls prog 31 #[O s] w λe G=>cA w e G (CR (Ez s) 0 []):=by
 obtain⟨i0,LE,KK,LS,LC⟩:=gH Tryz.info120;have HO:=Ab (cW hs);have HM:=Ab (Wz hs);have Ha:=Mq s;have FL:=Ab (bR s w hs);obtain⟨R,hR⟩:=kK (CR (Ez s) 0 []);rw[hR];have CC:=Ab hR;clear hR;generalize Ez s=ms at HO HM Ha FL CC;have Nq:Z ms<=1000:=by omega
 go_enter func31,ntmps31;go_wp2_with fail
 refine FL.mono ?_;rintro e x ⟨mv,rfl,BA,k1⟩;clear FL;obtain⟨C,m,rfl⟩:=Aj BA;have HH:=kN x [U C (Z ms) m,X J 0,X J 0] 147;have HS:=Al (fw BA (jj [U C (Z ms) m,X J 0,X J 0].toArray 147)) (fP _);have HU:(U C (Z ms) m).ownBlock≠V x.heap.size:=λe=>by have:=(BA.lt _ e).2;omega
 have HQ:Ch (x.alloc (jj [U C (Z ms) m,X J 0,X J 0].toArray 147)) x.heap.size (U C (Z ms) m) ms 0 0:=⟨HH,HS,HU,Ha.2,by omega⟩;have H3:=k1.alloc (jj [U C (Z ms) m,X J 0,X J 0].toArray 147);have I:=Ab HQ;have FA:=Ab H3;have H8:w.heap.size<=x.heap.size:=k1.size;have CL:(x.alloc (jj [U C (Z ms) m,X J 0,X J 0].toArray 147)).heap.size=x.heap.size+1:=by simp
 clear HH HS HU HQ H3 BA k1;go_wp2;change Code.wp _ _ _ _ (x.alloc (jj [U C (Z ms) m,X J 0,X J 0].toArray 147));generalize x.alloc (jj [U C (Z ms) m,X J 0,X J 0].toArray 147)=w2 at I FA CL⊢;obtain⟨b,H6⟩:=kK x.heap.size;rw[H6]at I H8 CL⊢;clear H6;obtain⟨g,NX,H0,_,_,_,_⟩:=I.cells;simp only[fg]at H0;obtain⟨rfl,_,rfl⟩:=H0;have H7:kt (∀k,b+1<=k->(U (V ⟨g,0,Y⟩) (Z ms) m).ownBlock≠V k):=λk y e=>by have:=(I.row.lt k e).2;omega
 go_loopg [2] (Z ms) (λgk o wr=>∃(j:Nat) (acc:kJ CB) (z:Option Addr) (B:Nat),o=U z (Z acc) B/\gk=Z ms-j/\kt (CR ms j (acc.map CB.pc)=R)/\kt (Ch wr b (U (V ⟨g,0,Y⟩) (Z ms) m) ms j 0)/\kt (FM wr (b+1) (U z (Z acc) B) acc)/\kt (Ac [] w wr)/\b+1<=wr.heap.size/\Z acc<=j)
 case atStart=>exact⟨0,[],Y,0,rfl,rfl,CC,I,FM.nil _ _,FA,by omega,by simp⟩
 case round=>
  clear I CC FA CL;obtain⟨j,acc,z,B,rfl,H2,N,HR,HP,HK,Go,M1⟩:=hrel;have HG:=Ab H2;clear H2;have S:=HR.lt;have NV:(j:Int)<(Z ms:Int):=by omega
  have M0:(0:Int)<=(j:Int):=by omega
  obtain⟨g',M6,he,b0,b1,_,hc⟩:=HR.cells;simp only[fg,fu,gi]at he;obtain⟨⟨rfl,_⟩,_,rfl⟩:=he;obtain⟨c0,_,_⟩:=hc j S;clear hc;rw[Be S]at c0;obtain⟨P,AB⟩:=kK (Au ms j).kind;rw[AB]at c0;go_wp2_with fail
  go_region_held3 (λG=>ku G ⟨b,0,Y⟩=V (U (V ⟨g,0,Y⟩) (Z ms) m)/\ku G ⟨b,1,Y⟩=V (X J j)/\ku G ⟨g,j*3,Y⟩=V (X J P)) (go_keep) (fail)
  rename_i K9;clear K9 b0 b1 c0;cases y:(P==1)with
  |true=>
   (have JJ:(P !=1)=K:=by simp[bne,y]);(have HF:kt (R=.ok (acc.map CB.pc)):=by show _=_;rw[<-Aa N];exact Nd S (by rw[AB];exact y));clear y AB N;go_wp2;go_ret3;rw[HF.out];exact⟨z,B,acc,by simp,rfl,by simpa using(HP.kept (kL [] wr).drew).base (by omega),HK.drew⟩
  |false=>
   (have JJ:(P !=1)=hG:=by simp[bne,y]);(have AH:kt (((Au ms j).kind==1)=K):=by show _=_;rw[AB];exact y);clear y AB;(go_wp2_with fail);refine(TP b (U (V ⟨g,0,Y⟩) (Z ms) m) ms j 0 _ (HR.zJ (kL [] wr).drew) HO HM).mono ?_;intro e v T;have D:=Ab (HP.kept (kL [] wr).drew);have W:=Ab (HK.drew);have K2:b+1<=wr.drew.heap.size:=Go;clear HR HP HK Go;generalize wr.drew=w5 at T D W K2;cases ht:Cs ms j with
   |error q=>
    rw[ht]at T;obtain⟨n9,hp,hn,LM,n8,LL,K5,n2,Ix,rfl,Q,F⟩:=T;(have HF:kt (R=.error q):=by show _=_;rw[<-Aa N];exact JP S AH ht);have K1:=Ab (W.trans' F (λi A=>kp (by simp at A;omega)));(have d2:=λo=>(Q.zK.alloc o).cell 2);simp at d2;clear ht N AH Q F D W;simp only[A4];(go_wp2_with fail);have NA:=d2 (jj [X J hp,O hn,U LM n8 LL,U K5 n2 Ix].toArray 120)
    go_region_held3 (λG=>ku G ⟨b,2,Y⟩=V (X J q)) (go_keep) (fail)
    rename_i IJ;clear IJ;go_wp2;go_ret3;rw[HF.out];exact⟨rfl,(K1.alloc _).drew⟩
   |ok r=>
    obtain⟨c,n1⟩:=r;rw[ht]at T;have MN:=GH ht;obtain⟨u,f,l,h,M,rfl,HN,Bx,Q,F⟩:=T;have HT:=Ab (Qp (acc:=acc.map CB.pc) S AH ht);clear ht AH;obtain⟨n,d,a,NS⟩:=c;simp only at HN Bx;subst HN;have MB:=F.size;have FO:=Ad D.row F;(have HW:kt (∀q∈acc,Ow v (b+1) (U z (Z acc) B) q):=λq E=>(D.each q E).kept F);have EK:kt (Ow v (b+1) (U z (Z acc) B) ⟨n,d,a,U u (Z a) f,U l (Z (M.map kE)) h,M⟩):=by
     have EY:=Bx.base (base':=w5.heap.size) (by omega);refine⟨Bx.base (by omega),?_,?_,?_⟩
     .exact Nk EY.head D.row
     .exact Nk EY.body.row D.row
     .exact λp hp=>Nk (EY.body.each p hp).1 D.row
    have H1:=Ab (W.trans' F (λi A=>kp (by simp at A;omega)));have L:=Ab Q;have NL:=Q.lt;clear Bx Q F D W;generalize hnl:Z (M.map kE)=nl at EK;have H4:((v.alloc (jj (j1 (A4 n d (U u (Z a) f) (U l nl h))) 120)).alloc (jj (j1 (A4 n d (U u (Z a) f) (U l nl h))) 120)).heap[v.heap.size+1]?=V (jj (j1 (A4 n d (U u (Z a) f) (U l nl h))) 120 (0,0)):=by
     have hh:=fX (v.alloc (jj (j1 (A4 n d (U u (Z a) f) (U l nl h))) 120)) (jj (j1 (A4 n d (U u (Z a) f) (U l nl h))) 120);rw[show(v.alloc (jj (j1 (A4 n d (U u (Z a) f) (U l nl h))) 120)).heap.size=v.heap.size+1 from by simp]at hh
     exact hh
    have HX:=fw (fw FO (jj (j1 (A4 n d (U u (Z a) f) (U l nl h))) 120)) (jj (j1 (A4 n d (U u (Z a) f) (U l nl h))) 120);(have NB:Z acc<=1000:=by omega);have Nx:=Ab hnl;clear hnl;simp only[A4];go_wp2_with (at_builtin;refine fO _ rfl (.tmp 35) (.tmp 37) _ rfl (b+1) 120 i0 _ 4 72 underlying40 LE KK LS LC rfl (by omega) (U z (Z acc) B) (Z acc) (acc.flatMap AZ) rfl HX ⟨v.heap.size+1,0,Y⟩ 1 1 (A4 n d (U u (Z a) f) (U l nl h)) rfl rfl (fM (cs:=j1 (A4 n d (U u (Z a) f) (U l nl h))) (t:=120) (fr:=(0,0)) H4) (by simp[Value.oneCell',A4]) (by omega) (by unfold maxLen;omega) (by omega) (by simp;omega) (v.heap.size+1+1) (by simp) ?_;intro g1 HB w9 HV HC B9 IS)
    have H:Ac (U z (Z acc) B).ownBlock.toList v w9:=(((kL _ v).alloc _).alloc _).grown HC (λk y=>kn (by simp[y]));(have AT:∀i∈(U z (Z acc) B).ownBlock.toList,b+1<=i:=λi A=>(FO.lt i (by simpa using A)).1);have HD:Ch w9 b (U (V ⟨g,0,Y⟩) (Z ms) m) ms n1 0:=⟨L.zK.kept H (λhm=>by have:=AT b hm;omega),Am L.row H (λi A hm=>by have:=AT i hm;exact absurd A (H7 i this)),L.ap,L.lt,L.len⟩;have HE:Ac [] w w9:=H1.trans' H (λi A=>kp (by have:=AT i A;omega));have LB:kt (FM w9 (b+1) (U (V ⟨g1,0,Y⟩) (Z acc+1) HB) (acc++[⟨n,d,a,U u (Z a) f,U l nl h,M⟩])):=by
     refine⟨by simpa[AZ,A4] using HV,?_⟩;intro q E;rcases fA.1 E with E|E
     .exact(HW q E).zY H B9 (by omega)
     .simp only[ft]at E;subst E;exact EK.zY H B9 (by omega)
    have K6:kt (CR ms n1 ((acc++[(⟨n,d,a,U u (Z a) f,U l nl h,M⟩:CB)]).map CB.pc)=R):=by
     show _=_;rw[<-Aa N,Aa HT];simp[CB.pc]
    (have Mo:b+1<=w9.heap.size:=by have:=H.size;omega);have KS:=Ab HD;have K8:=Ab HE;clear H AT HD HE HC B9 IS HV H4 HX FO HW EK H1 L N HT
    go_roundg (Z ms-n1)
    case measure=>have:=Aa HG;omega
    case rel=>exact⟨n1,acc++[⟨n,d,a,U u (Z a) f,U l nl h,M⟩],V ⟨g1,0,Y⟩,HB,by simp,rfl,K6,KS,by simpa using LB,K8,Mo,by simp;omega⟩
def WY{d:kJ A0}(h:At s d n m)(t:m<=s.size)(c:Ae s m=j):
  (((Au d n).kind==2)=hG/\∃g,A3 s j K=((Au d n).text,g,K)/\At s d (n+1) g/\g<=s.size)\/
  (((Au d n).kind==2)=K/\A3 s j K=(kB,j,hG)):=by
 have e:Ae s j=j:=by rw[<-c];exact B8 s m
 rw[h.head];by_cases b:j<s.size
 .have k:=h.next c b;cases hl:Az s[j] with
  |true=>
   obtain⟨o,q⟩:=GR c b hl;rw[q]at k;(have r:j<AM Az s j:=by rw[Ce _ _ _ b hl];have:=Cr Az s (j+1);omega);have l:=C3 Az s j (by omega);rw[o];by_cases f:AM Az s j-j<=4
   .left;refine⟨by simp[f],_,JX e rfl (by omega),k,l⟩
   .right;exact⟨by simp[f],DT e rfl (by omega)⟩
  |false=>
   right;refine⟨?_,DT e (ER _ _ _ b hl) (kn rfl)⟩;(have u:¬(97<=s[j].toNat/\s[j].toNat<=122):=λh=>by rw[(CH _).2 h]at hl;cases hl);by_cases p:s[j].toNat<128
   .cases hd:Aq s[j] with
    |true=>
     rw[(E2 c b hl hd).1];by_cases f:3<AM Aq s j-j\/(s[j]=48/\1<AM Aq s j-j)<;>simp[f]
    |false=>
     by_cases i:s[j]=58/\DV s (j+1) 45=hG
     .rw[(Jq c b i.1 i.2).1];rfl
     .rw[(Gs c b hl hd i p).1];simp only[gm,ne_eq,F7];omega
   .rw[(GS c b (by omega)).1];rfl
 .right;rw[IM (by omega)];exact⟨rfl,DT e (FY _ _ _ b) (kn rfl)⟩
def Mn(s:zA)(a:Nat)(c:UInt8):BW s a hG c=a:=by simp[BW,AN]
def Mf(h:DV s (Ae s n) g=hG):BW s n K g=Ae s n+1:=by simp[BW,AN,h]
def PP(h:DV s (Ae s n) g=K):BW s n K g=Ae s n:=by simp[BW,AN,h]
def Fz(s:zA)(a:Nat)(c:UInt8):Bm s a hG c=(a,hG):=by simp[Bm,Mn]
def LH(h:DV s (Ae s n) g=hG):Bm s n K g=(Ae s n+1,K):=by simp[Bm,Mf h,AN,h]
def M8(h:DV s (Ae s n) g=K):Bm s n K g=(Ae s n,hG):=by simp[Bm,PP h,AN,h]
def Xr{s:zA}{f:kJ A0}:∀(k d a:Nat) (i:kJ AO),Z f-d<=k->At s f d a->a<=s.size->
  Ot (λts (L:kJ AG)=>ts=i++L.map ct) s f (Gj f d i) ((Cy s a).1,Bm s (Cy s a).2.1 (Cy s a).2.2 41)
 |k,d,a,i,hk,h,ha=>by
  have x:=h.lt;have g:=SY h ha;obtain⟨l,b,v,j⟩:∃l b v,AK s a K=(l,b,v):=⟨_,_,_,rfl⟩;rw[j]at g;unfold Gj;rw[dif_pos x];cases hM:Fs (Au f d) d with
  |error p=>
   rw[hM]at g;obtain⟨rfl,rfl⟩:=g;rw[Ls j (by simp)];simp only[Mn,Fz];exact⟨rfl,rfl⟩
  |ok r=>
   obtain⟨t,B⟩:=r;rw[hM]at g;have A:=FD hM;subst A;obtain⟨rfl,rfl,u,w⟩:=g;simp only;have z:=DR (s:=s) (a:=b) (c:=44) (by simp[EH]);have y:=DR (s:=s) (a:=b) (c:=41) (by simp[EH]);rw[u.head,show Hs=⟨#[44]⟩from rfl,show OB=⟨#[41]⟩from rfl,z,y];cases hc:DV s (Ae s b) 44 with
   |true=>
    obtain⟨_,e⟩:=PY j ha (by simp[AN,hc]);rw[Mf hc]at e;obtain⟨q,o⟩:=u.take (by simp[EH]) hc;rw[e];simp only[if_true]
    match k with
    |0=>omega
    |k+1=>
     have ih:=Xr k (d+2) (Ae s b+1) (i++[ct l]) (by omega) q o
     revert ih
     generalize Gj f (d+2) (i++[ct l])=X;intro ih
     match X,ih with
     | .ok (ts,n),ih=>exact⟨ih.1,by rw[ih.2.1];simp,ih.2.2⟩
     | .error p,ih=>exact ih
   |false=>
    rw[Ls j (by simp[AN,hc])];simp only[fq,if_false,PP hc];have m:Ae s (Ae s b)=Ae s b:=B8 s b;cases hcl:DV s (Ae s b) 41 with
    |true=>
     obtain⟨q,o⟩:=u.take (by simp[EH]) hcl;rw[LH (by rw[m];exact hcl),m];simp only[if_true];exact⟨rfl,rfl,q,o⟩
    |false=>
     rw[M8 (by rw[m];exact hcl),m,DK w];simp only[fq,if_false];exact⟨rfl,rfl⟩
def SO{b:kJ A0}{d a:Nat}(h:At s b d a)(i:a<=s.size):
  Ot (λx (A:C8)=>x=(A.at_,A.name,A.args.map ct)) s b (ET b d) (AV s a K):=by
 have r:AN s a K=Ae s a:=rfl;have k:(Au b d).place=Ae s a:=by rw[h.head,DK i]
 unfold ET AV;simp only[r];rcases WY h i rfl with⟨f,g,e,j,l⟩|⟨f,e⟩
 .rw[e,f];simp only[if_true];have m:=DR (s:=s) (a:=g) (c:=40) (by simp[EH]);rw[j.head,show RH=⟨#[40]⟩from rfl,m];cases hc:DV s (Ae s g) 40 with
  |true=>
   obtain⟨o,q⟩:=j.take (by simp[EH]) hc;rw[LH hc];simp only[if_true,Eo,fq,if_false];have ih:=Xr _ (d+2) (Ae s g+1) [] (fJ _) o q
   revert ih
   generalize Gj b (d+2) []=X;intro ih
   match X,ih with
   | .ok (ts,n),ih=>exact⟨ih.1,by rw[ih.2.1,k];simp,ih.2.2⟩
   | .error p,ih=>exact ih
  |false=>
   rw[M8 hc,DK l];simp only[fq,if_false,Eo,if_true,Fz];exact⟨rfl,rfl⟩
 .rw[e,f,k];simp only[fq,if_false,Fz,Eo,if_true];exact⟨rfl,rfl⟩
def Fr(k:UInt8):Int:=if k=97 then 0 else if k=33 then 1 else if k=61 then 2 else if k=35 then 3 else 4
def L1(x:BH):PL:=⟨x.at_,Fr x.kind,x.A.at_,x.A.name,x.A.args.map ct,ct x.L,ct x.R⟩
def dv:ct Ej=AD:=rfl
def dL{e:kJ A0}{d a j:Nat}(h:At s e d j)(C:j<=s.size)(W:Ae s j=j):
  Ot (λx (y:BH)=>Jr (.inr x)=L1 y/\x.atom=AW) s e (Hf e d) (Hz s j (AN s (AK s j K).2.1 (AK s j K).2.2) (AK s j K).1 (AK s j K).2.2):=by
 have H:(Au e d).place=j:=by rw[h.head,DK C,W]
 have f:=SY h C;obtain⟨l,b,z,B⟩:∃l b z,AK s j K=(l,b,z):=⟨_,_,_,rfl⟩;rw[B]at f;rw[B];unfold Hf Hz;cases hM:Fs (Au e d) d with
 |error p=>
  rw[hM]at f;obtain⟨rfl,rfl⟩:=f;simp only[i6,jd,fq,if_false,J7];exact⟨rfl,rfl⟩
 |ok r=>
  obtain⟨t,n1⟩:=r;rw[hM]at f;have I:=FD hM;subst I;obtain⟨rfl,rfl,v,E⟩:=f;simp only;have L:=DR (s:=s) (a:=b) (c:=61) (by simp[EH]);have N:=DR (s:=s) (a:=b) (c:=35) (by simp[EH]);have Q:=DR (s:=s) (a:=b) (c:=60) (by simp[EH]);have P:AN s b K=Ae s b:=rfl;rw[v.head,P];unfold My;rw[show eZ=⟨#[61]⟩from rfl,show eX=⟨#[35]⟩from rfl,show eV=⟨#[60]⟩from rfl,L,N,Q];have n:∀(c:UInt8) (m:Int),c∈EH->Fr c=m->DV s (Ae s b) c=hG->Cw s (Ae s b)=c/\
    Ot (λx (y:BH)=>Jr (.inr x)=L1 y/\x.atom=AW) s e
     (match Fs (Au e (d+1+1)) (d+1+1)with| .error p=> .error p| .ok (r,n2)=> .ok (⟨(Au e d).place,m,AW,ct l,r⟩,n2))
     (⟨c,Gz,l,(AK s (Ae s b+1) K).1,j⟩,(AK s (Ae s b+1) K).2):=by
   intro c m M Ax o;have u:=Fm o;refine⟨by rw[Ep u];simpa[DV,u] using o,?_⟩;obtain⟨G,T⟩:=v.take M o;have k:=SY G T;obtain⟨q,A,w,D⟩:∃q A w,AK s (Ae s b+1) K=(q,A,w):=⟨_,_,_,rfl⟩;rw[D]at k;rw[D];cases hM2:Fs (Au e (d+1+1)) (d+1+1)with
   |error p=>
    rw[hM2]at k;obtain⟨rfl,rfl⟩:=k;exact⟨rfl,rfl⟩
   |ok r=>
    obtain⟨t3,n3⟩:=r;rw[hM2]at k;have R:=FD hM2;subst R;obtain⟨rfl,rfl,S,F⟩:=k;refine⟨rfl,⟨?_,rfl⟩,S,F⟩;simp[Jr,L1,Ax,H,Gz]
  cases h61:DV s (Ae s b) 61 with
  |true=>
   obtain⟨g,i⟩:=n 61 2 (by simp[EH]) rfl h61;rw[g];simp only[if_true,gX,jp,iY];exact i
  |false=>
   cases h35:DV s (Ae s b) 35 with
   |true=>
    obtain⟨g,i⟩:=n 35 3 (by simp[EH]) rfl h35;rw[g];simp only[if_true,gX,jp,jQ,iY,fq,if_false];exact i
   |false=>
    cases h60:DV s (Ae s b) 60 with
    |true=>
     obtain⟨g,i⟩:=n 60 4 (by simp[EH]) rfl h60;rw[g];simp only[if_true,gX,jQ,iY,fq,if_false];exact i
    |false=>
     simp only[kl,jc,fq,if_false,DK E];exact⟨rfl,rfl⟩
def dJ{b:kJ A0}{d a:Nat}(h:At s b d a)(E:a<=s.size):
  Ot (λx (y:BH)=>Jr x=L1 y) s b (Hh b d) (Dj s a):=by
 obtain⟨j,g⟩:=kK (Ae s a);have f:Ae s j=j:=by rw[<-g];exact B8 s a
 have q:j<=s.size:=by rw[<-g];exact Bj s a E
 have o:At s b d j:=by rw[<-g];exact h.gap
 have H:(Au b d).place=j:=by rw[h.head,DK E,g]
 unfold Hh Dj;simp only[g];have R:=DR (s:=s) (a:=a) (c:=33) (by simp[EH]);rw[h.head,show WE=⟨#[33]⟩from rfl,R,g,<-h.head,H];cases h33:DV s j 33 with
 |true=>
  obtain⟨z,C⟩:=o.take (c:=33) (by simp[EH]) (by rw[f];exact h33);rw[f]at z C;simp only[if_true];have ih:=SO z C;obtain⟨A,l,k,u⟩:∃A l k,AV s (j+1) K=(A,l,k):=⟨_,_,_,rfl⟩;rw[u]at ih⊢
  revert ih
  generalize ET b (d+1)=X;intro ih
  match X,ih with
  | .ok ((p,n,ts),m),ih=>
   obtain⟨w,i,v⟩:=ih;refine⟨w,?_,v⟩;simp only[gA]at i;obtain⟨rfl,rfl,rfl⟩:=i;simp[Jr,L1,Fr,dv]
  | .error p,ih=>exact ih
 |false=>
  simp only[fq,if_false];have L:Er b d=(Ff s j&&Lp s j):=by
   unfold Er;have G:=h.lt;have P:b[d]?=V (Au b d):=by
    unfold Au;rw[fG,fI G];rfl
   rw[P];rcases WY o q f with⟨r,M,e,B,S⟩|⟨r,e⟩
   .have I:=B.lt;have Q:b[d+1]?=V (Au b (d+1)):=by
     unfold Au;rw[fG,fI I];rfl
    have N:=DR (s:=s) (a:=M) (c:=40) (by simp[EH]);have F:Ff s j=hG:=by
     unfold Ff;by_cases t:j<s.size
     .rw[dif_pos t];cases hl:Az s[j] with
      |true=>rfl
      |false=>rw[DT f (ER _ _ _ t hl) (kn rfl)]at e;simp at e
     .rw[DT f (FY _ _ _ t) (kn rfl)]at e;simp at e
    unfold Lp;rw[Q,e,F];simp only[r,ii,gX];rw[B.head,show RH=⟨#[40]⟩from rfl,N];rfl
   .unfold Lp;rw[e];simp only[i6,jd,jc];split
    .rename_i m W D T;simp only[fu]at D;rw[<-D,r,jd]
    .rfl
  rw[L];cases hop:(Ff s j&&Lp s j)with
  |true=>
   simp only[if_true];have ih:=SO o q;obtain⟨A,l,k,u⟩:∃A l k,AV s j K=(A,l,k):=⟨_,_,_,rfl⟩;rw[u]at ih⊢
   revert ih
   generalize ET b d=X;intro ih
   match X,ih with
   | .ok ((p,n,ts),m),ih=>
    obtain⟨w,i,v⟩:=ih;refine⟨w,?_,v⟩;simp only[gA]at i;obtain⟨rfl,rfl,rfl⟩:=i;simp[Jr,L1,Fr,dv]
   | .error p,ih=>exact ih
  |false=>
   simp only[fq,if_false];have ih:=dL (a:=a) o q f
   revert ih
   generalize Hf b d=X;intro ih
   match X,ih with
   | .ok (c,m),ih=>exact⟨ih.1,ih.2.1.1,ih.2.2⟩
   | .error p,ih=>exact ih
def W9{s:zA}{b:kJ A0}:∀(k j a:Nat) (i:kJ PL),Z b-j<=k->At s b j a->a<=s.size->
  Ot (λls (L:kJ BH)=>ls=i++L.map L1) s b (Ft b j i) (Da s a)
 |k,j,a,i,hk,h,ha=>by
  have q:=h.lt;have g:=dJ h ha;obtain⟨f,d,o,l⟩:∃f d o,Dj s a=(f,d,o):=⟨_,_,_,rfl⟩;rw[l]at g;cases hM:Hh b j with
  |error p=>
   rw[hM]at g;obtain⟨rfl,rfl⟩:=g;rw[LA l (by simp),Hm q hM,Mn];exact⟨rfl,rfl⟩
  |ok r=>
   obtain⟨t,u⟩:=r;rw[hM]at g;have B:=Iz hM;obtain⟨rfl,x,m,v⟩:=g;have A:Jr t=L1 f:=x;have y:=DR (s:=s) (a:=d) (c:=44) (by simp[EH]);rw[Mx q hM,m.head,show Hs=⟨#[44]⟩from rfl,y,A];cases hc:DV s (Ae s d) 44 with
   |true=>
    obtain⟨_,e⟩:=Px l ha (by simp[AN,hc]);rw[Mf hc]at e;obtain⟨w,z⟩:=m.take (by simp[EH]) hc;rw[e];simp only[if_true]
    match k with
    |0=>omega
    |k+1=>
     have ih:=W9 k (u+1) (Ae s d+1) (i++[L1 f]) (by omega) w z
     revert ih
     generalize Ft b (u+1) (i++[L1 f])=X;intro ih
     match X,ih with
     | .ok (ts,n),ih=>exact⟨ih.1,by rw[ih.2.1];simp,ih.2.2⟩
     | .error p,ih=>exact ih
   |false=>
    rw[LA l (by simp[AN,hc]),PP hc];simp only[fq,if_false];exact⟨rfl,by simp,m.gap,Bj s d v⟩
def bF(c:Cb):PC:=⟨c.head.at_,c.head.name,c.head.args.map ct,c.body.map L1⟩
def be{b:kJ A0}{n a:Nat}{c:PC}{C:Cb}(h:At s b n a)(d:a<=s.size)(i:c=bF C/\C.at_=C.head.at_):
  Ot (λx (y:Cb)=>x=bF y/\y.at_=y.head.at_) s b (MQ b n c) (C,Bm s a K 46):=by
 have f:=DR (s:=s) (a:=a) (c:=46) (by simp[EH]);unfold MQ;rw[h.head,show Xk=⟨#[46]⟩from rfl,f,DK d];cases hd:DV s (Ae s a) 46 with
 |true=>
  obtain⟨e,g⟩:=h.take (by simp[EH]) hd;rw[LH hd];exact⟨rfl,i,e,g⟩
 |false=>
  rw[M8 hd];exact⟨rfl,rfl⟩
def dN(s:zA)(a:Nat):BE (BO s a) XD=(DV s (Ae s a) 58&& !(DV s (Ae s a+1) 45))/\BE (BO s a) dl=(DV s (Ae s a) 58&&DV s (Ae s a+1) 45):=by
 obtain⟨j,b⟩:=kK (Ae s a);rw[b];unfold BE;by_cases h:j<s.size
 .have o:DV s j 58=(s[j]==58):=by simp[DV,h]
  rw[o];by_cases c:s[j]=58/\DV s (j+1) 45=hG
  .rw[(Jq b h c.1 c.2).1,c.1,c.2];have k:(dl.toList==XD.toList)=K:=by
    rw[show dl.toList=[58,45] from by rw[gC];rfl,show XD.toList=[58] from by rw[gC];rfl]
    rfl
   (have n:(dl.toList==dl.toList)=hG:=by simp);constructor
   .rw[k];rfl
   .rw[n];rfl
  .have i:∀x:UInt8,((⟨#[x]⟩:zA).toList==dl.toList)=K:=by
    intro x;rw[show dl.toList=[58,45] from by rw[gC];rfl,show(⟨#[x]⟩:zA).toList=[x] from by rw[gC]]
    simp
   by_cases f:s[j].toNat<128
   .cases hl:Az s[j] with
    |true=>
     (have:s[j]≠58:=λe=>by rw[e]at hl;cases hl);rw[(GR b h hl).1];by_cases d:AM Az s j-j<=4<;>simp[d,this]
    |false=>
     cases hd:Aq s[j] with
     |true=>
      (have:s[j]≠58:=λe=>by rw[e]at hd;cases hd);rw[(E2 b h hl hd).1];by_cases d:3<AM Aq s j-j\/(s[j]=48/\1<AM Aq s j-j)<;>simp[d,this]
     |false=>
      rw[(Gs b h hl hd c f).1];rw[show XD=⟨#[58]⟩from rfl];simp only[RA,i,jc];cases he:(s[j]==58)with
      |false=>simp
      |true=>
       (have g:s[j]=58:=by simpa using he);have m:DV s (j+1) 45=K:=by
        cases d:DV s (j+1) 45 with
        |false=>rfl
        |true=>exact absurd ⟨g,d⟩ c
       rw[g,m];exact⟨rfl,rfl⟩
   .have:=GS b h (by omega);have l:(s[j]==58)=K:=by
     simp only[gm,ne_eq];intro e;rw[e]at f;simp at f
    rw[this.1,l];exact⟨rfl,rfl⟩
 .rw[IM (by omega)];simp[Ex,DV,h]
def Yq{d:kJ A0}{o a:Nat}(h:At s d o a)(R:a<=s.size):
  Ot (λx (y:Cb)=>x=bF y/\y.at_=y.head.at_) s d (Cs d o) (Ao s a):=by
 have F:=h.gap;have Q:=Bj s a R;have M:Ae s (Ae s a)=Ae s a:=B8 s a;have e:=SO F Q;obtain⟨A,b,v,l⟩:∃A b v,AV s (Ae s a) K=(A,b,v):=⟨_,_,_,rfl⟩;have t:A.at_=Ae s a:=by
  have:(AV s (Ae s a) K).1.at_=Ae s a:=by
   unfold AV;simp only;show Ae s (Ae s a)=Ae s a;exact M
  rw[l]at this;exact this
 rw[l]at e;unfold Cs Ao;simp only[l];cases hM:ET d o with
 |error p=>
  rw[hM]at e;obtain⟨rfl,rfl⟩:=e;simp only[DG,i6,jd,fq,if_false,Mn,Fz];exact⟨rfl,rfl⟩
 |ok r=>
  obtain⟨⟨p,n,ts⟩,m⟩:=r;rw[hM]at e;obtain⟨rfl,w,j,q⟩:=e;simp only[gA]at w;obtain⟨rfl,rfl,rfl⟩:=w;obtain⟨H,I⟩:=dN s b;have G:AN s b K=Ae s b:=rfl;simp only;rw[j.head,H,I];unfold DG;rw[G];cases h58:DV s (Ae s b) 58 with
  |false=>
   simp only[jd,fq,if_false,jc,PP h58];have:=be (c:=⟨A.at_,A.name,A.args.map ct,[]⟩) (C:=⟨A,[],Ae s a⟩) j.gap (Bj s b q) ⟨rfl,t.symm⟩;exact this
  |true=>
   simp only[gX,ii,if_true,Mf h58];cases h45:DV s (Ae s b+1) 45 with
   |false=>
    simp only[gX,if_true,fq,if_false,Fz,DK q];exact⟨rfl,by simp⟩
   |true=>
    simp only[i6,if_true,fq,if_false];have g:=Fm h58;(have E:s[Ae s b]=58:=by simpa[DV,g] using h58);have z:=j.next rfl g;rw[(Jq (a:=b) rfl g E h45).2]at z;have W:=Fm h45;have f:=W9 _ (m+1) (Ae s b+2) [] (fJ _) z (by omega);obtain⟨L,k,i,u⟩:∃L k i,Da s (Ae s b+2)=(L,k,i):=⟨_,_,_,rfl⟩;rw[u]at f;have P:Da s (Ae s b+1+1)=(L,k,i):=u;rw[P];cases hM3:Ft d (m+1) [] with
    |error p=>
     rw[hM3]at f;obtain⟨rfl,rfl⟩:=f;simp only[Fz];exact⟨rfl,rfl⟩
    |ok r=>
     obtain⟨T,S⟩:=r;rw[hM3]at f;obtain⟨rfl,B,N,D⟩:=f;simp only[ia]at B;subst B;exact be (c:=⟨A.at_,A.name,A.args.map ct,L.map L1⟩) (C:=⟨A,L,Ae s a⟩) N D ⟨rfl,t.symm⟩
def XC{s:zA}{d:kJ A0}:∀(k i a:Nat) (j:kJ PC),Z d-i<=k->At s d i a->a<=s.size->Ae s a=a->
  match CR d i j with
  | .ok cs=>(Ar s a).2.2=K/\cs=j++(Ar s a).1.map bF/\(∀c∈(Ar s a).1,c.at_=c.head.at_)
  | .error p=>(Ar s a).2.2=hG/\p=((Ar s a).2.1:Int)
 |k,i,a,j,hk,h,ha,hg=>by
  have o:=h.lt;by_cases g:a<s.size
  .have m:((Au d i).kind==1)=K:=by
    rw[h.head];have l:=hg;by_cases z:s[a].toNat<128
    .cases hl:Az s[a] with
     |true=>
      rw[(GR l g hl).1];by_cases q:AM Az s a-a<=4<;>simp[q]
     |false=>
      cases hd:Aq s[a] with
      |true=>
       rw[(E2 l g hl hd).1];by_cases q:3<AM Aq s a-a\/(s[a]=48/\1<AM Aq s a-a)<;>simp[q]
      |false=>
       by_cases t:s[a]=58/\DV s (a+1) 45=hG
       .rw[(Jq l g t.1 t.2).1];rfl
       .rw[(Gs l g hl hd t z).1];simp only[gm,ne_eq];(have A:¬(97<=s[a].toNat/\s[a].toNat<=122):=λh=>by rw[(CH _).2 h]at hl;cases hl);(have D:¬(48<=s[a].toNat/\s[a].toNat<=57):=λh=>by rw[(Ca _).2 h]at hd;cases hd);rcases Qq A D with e|e|e<;>simp[e]
    .rw[(GS l g (by omega)).1];rfl
   have b:=Yq h ha;obtain⟨C,f,u,v⟩:∃C f u,Ao s a=(C,f,u):=⟨_,_,_,rfl⟩;rw[v]at b;rw[KL g v];cases hM:Cs d i with
   |error p=>
    rw[hM]at b;obtain⟨rfl,rfl⟩:=b;rw[JP o m hM];simp only[EO,if_true,J7];exact⟨trivial,trivial⟩
   |ok r=>
    obtain⟨c,n⟩:=r;have E:=GH hM;rw[hM]at b;obtain⟨rfl,⟨rfl,x⟩,y,w⟩:=b;rw[Qp o m hM];simp only[EO,fq,if_false];have B:AN s f K=Ae s f:=rfl;rw[B]
    match k with
    |0=>omega
    |k+1=>
     have ih:=XC k n (Ae s f) (j++[bF C]) (by omega) y.gap (Bj s f w) (B8 s f)
     revert ih
     generalize CR d n (j++[bF C])=X;intro ih
     match X,ih with
     | .ok cs,ih=>
      refine⟨ih.1,by rw[ih.2.1];simp,?_⟩;intro c b;rcases fx.1 b with rfl|b
      .exact x
      .exact ih.2.2 c b
     | .error p,ih=>exact ih
  ·(have m:((Au d i).kind==1)=hG:=by rw[h.head,IM (by omega)];rfl);rw[Nd o m,LQ g];simp
def KP(s:zA):Bool:= !decide (300<s.size)&&(!(Ao s 0).2.2&&(!decide ((Ao s 0).2.1<s.size)&&(!decide (0<Z (Ao s 0).1.body)&& !decide (2<Z (Ao s 0).1.head.args))))
def aW:Ag:=⟨⟨#[]⟩,[]⟩
def CI(s:zA):Ag:=if KP s=hG then Av BM (Ao s 0).1.head else aW
def KG(s:zA):Bool:=KP s&&((EZ (CI s)).toList==s.toList)
def Zn(x:zA):Prop:=1<=Z x.toList/\Z x.toList<=4/\∀c∈x.toList,Az c=hG
def eK(x:zA):Prop:=1<=Z x.toList/\Z x.toList<=3/\(∀c∈x.toList,Aq c=hG)/\∀r,x.toList=48::r->r=[]
def Me(x:zA):Prop:=Zn x\/eK x
def Ga(s:zA)(i:Nat)(l:kJ UInt8):Prop:=i+Z l<=s.size/\∀k (h:k<Z l) (h2:i+k<s.size),s[i+k]=l[k]
def Ga.left{l m:kJ UInt8}(h:Ga s i (l++m)):Ga s i l:=by
 have a:=h.1;rw[fE]at a;refine⟨by omega,λk c b=>?_⟩;rw[h.2 k (by rw[fE];omega) b,jw c]
def Ga.right{l m:kJ UInt8}(h:Ga s i (l++m)):Ga s (i+Z l) m:=by
 have a:=h.1;rw[fE]at a;refine⟨by omega,λk c b=>?_⟩;have:=h.2 (Z l+k) (by rw[fE];omega) (by omega);rw[List.getElem_append_right (by omega)]at this;simp only[Nat.add_sub_cancel_left]at this;rw[<-this]
 congr 1
 omega
def Ga.head{l:kJ UInt8}(h:Ga s i (g::l)):∃b:i<s.size,s[i]=g:=by
 have a:=h.1;simp only[fD]at a;have:=h.2 0 (by simp) (by omega);exact⟨by omega,by simpa using this⟩
def T9(h:Az g=hG):Di g=K/\Dk g=K/\Aq g=K:=by
 unfold Az at h;unfold Di Dk Aq;simp only[fU,jg]at h;have b:97<=g.toNat:=h.1;refine⟨?_,?_,?_⟩
 .rw[jb,gm,gm];constructor
  .rintro rfl;exact absurd b (by decide)
  .rintro rfl;exact absurd b (by decide)
 .rw[Bool.and_eq_false_iff];exact kp (ic (λa=>by have:g.toNat<=90:=a;omega))
 .rw[Bool.and_eq_false_iff];exact kp (ic (λa=>by have:g.toNat<=57:=a;omega))
def Tu(h:Aq g=hG):Di g=K/\Dk g=K:=by
 unfold Aq at h;unfold Di Dk;simp only[fU,jg]at h;have a:48<=g.toNat:=h.1;have b:g.toNat<=57:=h.2;refine⟨?_,?_⟩
 .rw[jb,gm,gm];constructor
  .rintro rfl;exact absurd a (by decide)
  .rintro rfl;exact absurd a (by decide)
 .rw[Bool.and_eq_false_iff];exact kn (ic (λb=>by have:65<=g.toNat:=b;omega))
def Me.first(h:Me s):∃c r,s.toList=c::r/\Di c=K/\Dk c=K/\((Aq c=K/\Zn s)\/(Aq c=hG/\eK s)):=by
 cases hx:s.toList with
 |nil=>
  rcases h with h|h
  .have:=h.1;rw[hx]at this;simp at this
  .have:=h.1;rw[hx]at this;simp at this
 |cons c r=>
  refine⟨c,r,rfl,?_⟩;rcases h with h|h
  .have e:=h.2.2 c (by rw[hx];simp);obtain⟨b,a,f⟩:=T9 e;exact⟨b,a,kn ⟨f,h⟩⟩
  .have d:=h.2.2.1 c (by rw[hx];simp);obtain⟨b,a⟩:=Tu d;exact⟨b,a,kp ⟨d,h⟩⟩
